import Derived.Test.YtbiomnnlpafciaaDoorS43
import Derived.WalkKit
import Derived.WalkSpells
import Derived.IntWalk
import Derived.Deep.Cut
import Derived.Deep.LoopGhost
import Derived.Laws.Cover1
import Derived.Lib.Hide
set_option linter.unusedVariables false
set_option linter.unusedSimpArgs false
set_option maxHeartbeats 64000000
set_option maxRecDepth 100000
namespace Go.Proofs.YtbiomnnlpafciaaDoor
open Go.RowKit Go.IntWalk
set_option linter.unusedVariables false
set_option linter.unusedSimpArgs false
/-- in the midst of a tree's code -/
structure MidD (w : World) (cb k : Nat) (C0 : List Cd.In) (C1 : List Cd.In) (E : List Pu) (tn : Int) (i : Nat) (wr : World) : Prop where
  c : ∃ k' v' C, EO wr cb k' v' C ∧ (k' = k ∨ w.heap.size ≤ k') ∧ C.length ≤ C0.length + 11 * i ∧ C1 = C ++ Em.et (E.drop i) (2 + ((Lo.stk [] 0 E i).length : Int)) tn
  a : Aside [cb, k] w.heap.size w wr
set_option maxHeartbeats 64000000 in
theorem tree56_any {w : World} {cb k : Nat} {v : Value} {C : List Cd.In} (h : EO w cb k v C) (hlen : C.length ≤ 700000) {okE : Nat → Prop} {aE : Option Addr} {cE : Nat} {E : List Pu} (hE : HPu okE w (.slice aE E.length cE) E) (hok : ∀ i, okE i → i ≠ cb ∧ i ≠ k) {c n tn : Int} (hf : Lo.Fit c n E) (ht : 0 ≤ tn) :
    Calls Tryd.prog 56 #[.pointer (some ⟨cb, 0, none⟩), .slice aE E.length cE, .int .i64 2, .int .i64 tn] w (EP w cb k (C ++ Em.et E 2 tn)) := by
  obtain ⟨C1, hC1⟩ : ∃ x, x = C ++ Em.et E 2 tn := ⟨_, rfl⟩
  rw [← hC1]
  have H0 : Hid (MidD w cb k C C1 E tn 0 w) := hide ⟨⟨k, v, C, h, .inl rfl, by omega, by rw [hC1, Lo.stk_zero]; simp⟩, Aside.refl _⟩
  have HE := hide hE
  have HOK := hide hok
  have HF := hide hf
  obtain ⟨m, hm⟩ : ∃ m, m = E.length := ⟨_, rfl⟩
  have hm24 : m ≤ 24 := by rw [hm]; exact hf.len
  rw [← hm]
  have HM := hide hm
  clear h hE hok hf hm hC1
  go_enter Tryd.func56, Tryd.ntmps56
  go_wp2_with fail
  go_loopg [2, 8] m (fun kz v2 v8 wr => ∃ (i : Nat) (fr : Int), i ≤ m ∧ kz = m - i ∧ v8 = .int .i64 (i : Nat) ∧ v2 = .int .i64 fr ∧ Hid (fr = 2 + ((Lo.stk [] 0 E i).length : Int)) ∧ Hid (MidD w cb k C C1 E tn i wr))
  case atStart => exact ⟨0, 2, Nat.zero_le _, rfl, rfl, rfl, hide (by rw [Lo.stk_zero]; rfl), H0⟩
  case round =>
    clear H0
    obtain ⟨i, fr, hi, rfl, rfl, rfl, HFR, H⟩ := hrel
    by_cases hlt : i < m
    case neg =>
      have hin : i = m := by omega
      subst hin
      have hz : E.drop i = [] := List.drop_of_length_le (by have := HM.out; omega)
      obtain ⟨⟨k', v', C', o1, o2, -, o4⟩, a1⟩ := H.out
      rw [hz] at o4
      simp only [Em.et, List.append_nil] at o4
      rw [← o4] at o1
      have HP : Hid (EP w cb k C1 (.returned (.tuple #[])) wr) := hide ⟨rfl, ⟨k', v', o1, o2⟩, a1⟩
      clear o1 o2 o4 a1 H hz HFR
      go_wp2
      exact bodyPost_end (v := .tuple #[]) (by simp [results, Tryd.results56]) rfl HP.out
    case pos =>
      obtain ⟨⟨k', v', C', o1, o2, o3, o4⟩, a1⟩ := H.out
      have hil : i < E.length := by have := HM.out; omega
      have hE2 := HE.out.aside a1 (fun j hj => by have := HOK.out j hj; simp; exact this)
      obtain ⟨ao', cap', eqs, -, -, hat2⟩ := hE2.at
      injection eqs with q1 q2 q3
      subst q1
      obtain ⟨bb, oo, rfl, hb, e0, e1, e2, e3⟩ := hat2 i hil
      obtain ⟨f1, f2, f3⟩ := HF.out.at' [] 0 i hil
      have hstp := Em.stp_len (M := []) (k := 0) f1
      rw [← Lo.stk_succ [] 0 E hil] at hstp
      have hfr := HFR.out
      have htk := Lo.tk_nonneg (E[i]).op
      rw [List.drop_eq_getElem_cons hil, Em.et, ← hfr] at o4
      have her : Em.er E[i] fr = 2 + ((Lo.stk [] 0 E (i + 1)).length : Int) := by unfold Em.er; omega
      rw [her] at o4
      generalize E[i] = y at e0 e1 e2 e3 f1 f2 hstp htk o4
      obtain ⟨op, kk, vv, nn⟩ := y
      dsimp only at e0 e1 e2 e3 f1 f2 hstp htk
      have hfr2 : 2 ≤ fr ∧ fr ≤ 26 := by omega
      have hep := ep_len ⟨op, kk, vv, nn⟩ fr tn
      have hnx : fr - Lo.tk op + 1 = 2 + ((Lo.stk [] 0 E (i + 1)).length : Int) := by omega
      have HTK := hide (show Lo.tk op ≤ fr - 2 by omega)
      have HNX : Hid (∀ (w2 : World) (k2 : Nat) (v2 : Value), EO w2 cb k2 v2 (C' ++ Em.ep ⟨op, kk, vv, nn⟩ fr tn) → (k2 = k' ∨ wr.heap.size ≤ k2) → Aside [cb, k'] wr.heap.size wr w2 → MidD w cb k C C1 E tn (i + 1) w2) := hide (fun w2 k2 v2 x1 x2 x3 => by
        refine ⟨⟨k2, v2, _, x1, next_own o2 x2 a1.size, by rw [List.length_append]; omega, ?_⟩, aside_next a1 o2 x3⟩
        rw [o4, List.append_assoc])
      have hC'l : C'.length ≤ 700000 + 264 := by omega
      have HCL := hide hC'l
      have HPU := hide f2
      have b4 : Below wr.heap.size wr (wr.alloc (.cells #[.int .i64 op, .int .i64 kk, .int .i64 vv, .int .i64 nn] 59 (0, 0))) := (Below.refl _ _).alloc (Nat.le_refl _) _
      have k4 := heap_new wr (.cells #[.int .i64 op, .int .i64 kk, .int .i64 vv, .int .i64 nn] 59 (0, 0))
      have HNF := hide hnx
      have hcr := lt_of o1.m
      have hkr := o1.lt
      have HO1 := hide o1
      clear o1 o2 o3 o4 a1 hE2 hat2 q2 q3 f1 f2 f3 hstp hfr htk her hnx hep H HFR hC'l
      go_upto_region 4 with fail
      generalize wr.alloc (.cells #[.int .i64 op, .int .i64 kk, .int .i64 vv, .int .i64 nn] 59 (0, 0)) = w4 at b4 k4 ⊢
      have y4 := lt_of k4
      have HO4 := hide (HO1.out.under b4)
      have s1 : wrap64 (fr - 1) = fr - 1 := Em.small64 (by omega)
      have s2 : wrap64 (fr - 2) = fr - 2 := Em.small64 (by omega)
      have s3 : wrap64 (fr - 3) = fr - 3 := Em.small64 (by omega)
      have t1 : IntKind.i64.wrap (fr + 1) = fr + 1 := i64_in _ (by omega)
      have t2 : IntKind.i64.wrap (fr + 2) = fr + 2 := i64_in _ (by omega)
      have t3 : wrap64 (fr + 1) = fr + 1 := Em.small64 (by omega)
      have t4 : wrap64 (fr + 2) = fr + 2 := Em.small64 (by omega)
      have r1 : IntKind.i64.wrap (fr - 1) = fr - 1 := i64_in _ (by omega)
      have r2 : IntKind.i64.wrap (fr - 2) = fr - 2 := i64_in _ (by omega)
      have r3 : IntKind.i64.wrap (fr - 3) = fr - 3 := i64_in _ (by omega)
      have A4 : Aside [cb, k'] wr.heap.size wr w4 := aside b4
      have N4 : wr.heap.size ≠ k' := by omega
      have N0 : wr.heap.size ≠ cb := by omega
      clear e0 e1 e2 e3 HO1 b4
      by_cases o1 : op = 1
      case pos =>
        subst o1
        have HF2 := hide (show fr + 1 = 2 + ((Lo.stk [] 0 E (i + 1)).length : Int) by have := HNF.out; simp [Lo.tk] at this; omega)
        clear HNF
        have HNF := HF2
        clear HF2
        have ep0 : Em.ep ⟨1, kk, vv, nn⟩ fr tn = [⟨1, 0, fr, 0, 0, nn⟩] := by simp [Em.ep]
        rw [ep0] at HNX
        clear ep0
        have HT3 := HTK.out
        simp [Lo.tk] at HT3
        have p0 := cell_of k4 0
        have p1 := cell_of k4 1
        have p2 := cell_of k4 2
        have p3 := cell_of k4 3
        simp at p0 p1 p2 p3
        go_wp2_with fail
        refine (put57_any HO4.out (by have := HCL.out; omega) 1 0 fr 0 0 nn).mono ?_
        rintro e w5 h5
        obtain ⟨ee, ⟨k5, v5, o5, hk5⟩, a5⟩ := h5
        have P5 := (a5.block _ (lt_of k4) (by simp; omega)).trans k4
        have y5 := Nat.lt_of_lt_of_le y4 a5.size
        have N5 : wr.heap.size ≠ k5 := by rcases hk5 with h | h <;> omega
        have A5 := aside_next A4 (.inl rfl) a5
        have K5 := hide (next_own (.inl rfl) hk5 A4.size)
        have HO5 := hide o5
        clear p0 p1 p2 p3 o5 a5 hk5 A4  HO4 N4 y4 k4
        have p0 := cell_of P5 0
        have p1 := cell_of P5 1
        have p2 := cell_of P5 2
        have p3 := cell_of P5 3
        simp at p0 p1 p2 p3
        subst ee
        have HN := hide (HNX.out _ _ _ (by have := HO5.out; (try simp only [List.append_assoc, List.cons_append, List.nil_append] at this); exact this) K5.out A5)
        clear p0 p1 p2 p3 A5 K5 HO5 N5 y5 P5 HNX
        go_wp2_with fail
        go_roundg (m - (i + 1))
        case measure => omega
        case rel => exact ⟨i + 1, fr + 1, by omega, rfl, by go_num, rfl, HNF, HN⟩
      have g1 : (op == 1) = false := by simpa using o1
      by_cases o2 : op = 2
      case pos =>
        subst o2
        have HF2 := hide (show fr + 1 = 2 + ((Lo.stk [] 0 E (i + 1)).length : Int) by have := HNF.out; simp [Lo.tk] at this; omega)
        clear HNF
        have HNF := HF2
        clear HF2
        have ep0 : Em.ep ⟨2, kk, vv, nn⟩ fr tn = [⟨2, 0, fr, 0, 0, vv⟩] := by simp [Em.ep]
        rw [ep0] at HNX
        clear ep0
        have HT3 := HTK.out
        simp [Lo.tk] at HT3
        have p0 := cell_of k4 0
        have p1 := cell_of k4 1
        have p2 := cell_of k4 2
        have p3 := cell_of k4 3
        simp at p0 p1 p2 p3
        go_wp2_with fail
        refine (put57_any HO4.out (by have := HCL.out; omega) 2 0 fr 0 0 vv).mono ?_
        rintro e w5 h5
        obtain ⟨ee, ⟨k5, v5, o5, hk5⟩, a5⟩ := h5
        have P5 := (a5.block _ (lt_of k4) (by simp; omega)).trans k4
        have y5 := Nat.lt_of_lt_of_le y4 a5.size
        have N5 : wr.heap.size ≠ k5 := by rcases hk5 with h | h <;> omega
        have A5 := aside_next A4 (.inl rfl) a5
        have K5 := hide (next_own (.inl rfl) hk5 A4.size)
        have HO5 := hide o5
        clear p0 p1 p2 p3 o5 a5 hk5 A4  HO4 N4 y4 k4
        have p0 := cell_of P5 0
        have p1 := cell_of P5 1
        have p2 := cell_of P5 2
        have p3 := cell_of P5 3
        simp at p0 p1 p2 p3
        subst ee
        have HN := hide (HNX.out _ _ _ (by have := HO5.out; (try simp only [List.append_assoc, List.cons_append, List.nil_append] at this); exact this) K5.out A5)
        clear p0 p1 p2 p3 A5 K5 HO5 N5 y5 P5 HNX
        go_wp2_with fail
        go_roundg (m - (i + 1))
        case measure => omega
        case rel => exact ⟨i + 1, fr + 1, by omega, rfl, by go_num, rfl, HNF, HN⟩
      have g2 : (op == 2) = false := by simpa using o2
      by_cases o3 : op = 3
      case pos =>
        subst o3
        by_cases h0 : tn = 0
        case pos =>
          subst h0
          have HF2 := hide (show fr + 1 = 2 + ((Lo.stk [] 0 E (i + 1)).length : Int) by have := HNF.out; simp [Lo.tk] at this; omega)
          clear HNF
          have HNF := HF2
          clear HF2
          have ep0 : Em.ep ⟨3, kk, vv, nn⟩ fr 0 = [⟨2, 0, fr, 0, 0, vv⟩] := by simp [Em.ep]
          rw [ep0] at HNX
          clear ep0
          have HT3 := HTK.out
          simp [Lo.tk] at HT3
          have p0 := cell_of k4 0
          have p1 := cell_of k4 1
          have p2 := cell_of k4 2
          have p3 := cell_of k4 3
          simp at p0 p1 p2 p3
          go_wp2_with fail
          refine (put57_any HO4.out (by have := HCL.out; omega) 2 0 fr 0 0 vv).mono ?_
          rintro e w5 h5
          obtain ⟨ee, ⟨k5, v5, o5, hk5⟩, a5⟩ := h5
          have P5 := (a5.block _ (lt_of k4) (by simp; omega)).trans k4
          have y5 := Nat.lt_of_lt_of_le y4 a5.size
          have N5 : wr.heap.size ≠ k5 := by rcases hk5 with h | h <;> omega
          have A5 := aside_next A4 (.inl rfl) a5
          have K5 := hide (next_own (.inl rfl) hk5 A4.size)
          have HO5 := hide o5
          clear p0 p1 p2 p3 o5 a5 hk5 A4  HO4 N4 y4 k4
          have p0 := cell_of P5 0
          have p1 := cell_of P5 1
          have p2 := cell_of P5 2
          have p3 := cell_of P5 3
          simp at p0 p1 p2 p3
          subst ee
          have HN := hide (HNX.out _ _ _ (by have := HO5.out; (try simp only [List.append_assoc, List.cons_append, List.nil_append] at this); exact this) K5.out A5)
          clear p0 p1 p2 p3 A5 K5 HO5 N5 y5 P5 HNX
          go_wp2_with fail
          go_roundg (m - (i + 1))
          case measure => omega
          case rel => exact ⟨i + 1, fr + 1, by omega, rfl, by go_num, rfl, HNF, HN⟩
        case neg =>
          have hb0 : (tn == 0) = false := by simpa using h0
          have HF2 := hide (show fr + 1 = 2 + ((Lo.stk [] 0 E (i + 1)).length : Int) by have := HNF.out; simp [Lo.tk] at this; omega)
          clear HNF
          have HNF := HF2
          clear HF2
          have ep0 : Em.ep ⟨3, kk, vv, nn⟩ fr tn = [⟨3, 0, fr, 0, tn, vv⟩] := by simp [Em.ep, h0]
          rw [ep0] at HNX
          clear ep0
          have HT3 := HTK.out
          simp [Lo.tk] at HT3
          have p0 := cell_of k4 0
          have p1 := cell_of k4 1
          have p2 := cell_of k4 2
          have p3 := cell_of k4 3
          simp at p0 p1 p2 p3
          go_wp2_with fail
          refine (put57_any HO4.out (by have := HCL.out; omega) 3 0 fr 0 tn vv).mono ?_
          rintro e w5 h5
          obtain ⟨ee, ⟨k5, v5, o5, hk5⟩, a5⟩ := h5
          have P5 := (a5.block _ (lt_of k4) (by simp; omega)).trans k4
          have y5 := Nat.lt_of_lt_of_le y4 a5.size
          have N5 : wr.heap.size ≠ k5 := by rcases hk5 with h | h <;> omega
          have A5 := aside_next A4 (.inl rfl) a5
          have K5 := hide (next_own (.inl rfl) hk5 A4.size)
          have HO5 := hide o5
          clear p0 p1 p2 p3 o5 a5 hk5 A4  HO4 N4 y4 k4
          have p0 := cell_of P5 0
          have p1 := cell_of P5 1
          have p2 := cell_of P5 2
          have p3 := cell_of P5 3
          simp at p0 p1 p2 p3
          subst ee
          have HN := hide (HNX.out _ _ _ (by have := HO5.out; (try simp only [List.append_assoc, List.cons_append, List.nil_append] at this); exact this) K5.out A5)
          clear p0 p1 p2 p3 A5 K5 HO5 N5 y5 P5 HNX
          go_wp2_with fail
          go_roundg (m - (i + 1))
          case measure => omega
          case rel => exact ⟨i + 1, fr + 1, by omega, rfl, by go_num, rfl, HNF, HN⟩
      have g3 : (op == 3) = false := by simpa using o3
      by_cases o4 : op = 4
      case pos =>
        subst o4
        by_cases h0 : 0 < tn
        case pos =>
          have hb0 : tn > 0 := h0
          have HF2 := hide (show fr + 1 = 2 + ((Lo.stk [] 0 E (i + 1)).length : Int) by have := HNF.out; simp [Lo.tk] at this; omega)
          clear HNF
          have HNF := HF2
          clear HF2
          have ep0 : Em.ep ⟨4, kk, vv, nn⟩ fr tn = [⟨1, 0, fr, 0, 0, nn⟩, ⟨7, 1, fr, fr, 0, 0⟩] := by simp [Em.ep, h0]
          rw [ep0] at HNX
          clear ep0
          have HT3 := HTK.out
          simp [Lo.tk] at HT3
          have p0 := cell_of k4 0
          have p1 := cell_of k4 1
          have p2 := cell_of k4 2
          have p3 := cell_of k4 3
          simp at p0 p1 p2 p3
          go_wp2_with fail
          refine (put57_any HO4.out (by have := HCL.out; omega) 1 0 fr 0 0 nn).mono ?_
          rintro e w5 h5
          obtain ⟨ee, ⟨k5, v5, o5, hk5⟩, a5⟩ := h5
          have P5 := (a5.block _ (lt_of k4) (by simp; omega)).trans k4
          have y5 := Nat.lt_of_lt_of_le y4 a5.size
          have N5 : wr.heap.size ≠ k5 := by rcases hk5 with h | h <;> omega
          have A5 := aside_next A4 (.inl rfl) a5
          have K5 := hide (next_own (.inl rfl) hk5 A4.size)
          have HO5 := hide o5
          clear p0 p1 p2 p3 o5 a5 hk5 A4  HO4 N4 y4 k4
          have p0 := cell_of P5 0
          have p1 := cell_of P5 1
          have p2 := cell_of P5 2
          have p3 := cell_of P5 3
          simp at p0 p1 p2 p3
          subst ee
          go_wp2_with fail
          refine (put57_any HO5.out (by simp; have := HCL.out; omega) 7 1 fr fr 0 0).mono ?_
          rintro e w6 h6
          obtain ⟨ee, ⟨k6, v6, o6, hk6⟩, a6⟩ := h6
          have P6 := (a6.block _ (lt_of P5) (by simp; omega)).trans P5
          have y6 := Nat.lt_of_lt_of_le y5 a6.size
          have N6 : wr.heap.size ≠ k6 := by rcases hk6 with h | h <;> omega
          have A6 := aside_next A5 K5.out a6
          have K6 := hide (next_own K5.out hk6 A5.size)
          have HO6 := hide o6
          clear p0 p1 p2 p3 o6 a6 hk6 A5 K5 HO5 N5 y5 P5
          have p0 := cell_of P6 0
          have p1 := cell_of P6 1
          have p2 := cell_of P6 2
          have p3 := cell_of P6 3
          simp at p0 p1 p2 p3
          subst ee
          have HN := hide (HNX.out _ _ _ (by have := HO6.out; (try simp only [List.append_assoc, List.cons_append, List.nil_append] at this); exact this) K6.out A6)
          clear p0 p1 p2 p3 A6 K6 HO6 N6 y6 P6 HNX
          go_wp2_with fail
          go_roundg (m - (i + 1))
          case measure => omega
          case rel => exact ⟨i + 1, fr + 1, by omega, rfl, by go_num, rfl, HNF, HN⟩
        case neg =>
          have hb0 : ¬ tn > 0 := h0
          have HF2 := hide (show fr + 1 = 2 + ((Lo.stk [] 0 E (i + 1)).length : Int) by have := HNF.out; simp [Lo.tk] at this; omega)
          clear HNF
          have HNF := HF2
          clear HF2
          have ep0 : Em.ep ⟨4, kk, vv, nn⟩ fr tn = [⟨1, 0, fr, 0, 0, nn⟩] := by simp [Em.ep, h0]
          rw [ep0] at HNX
          clear ep0
          have HT3 := HTK.out
          simp [Lo.tk] at HT3
          have p0 := cell_of k4 0
          have p1 := cell_of k4 1
          have p2 := cell_of k4 2
          have p3 := cell_of k4 3
          simp at p0 p1 p2 p3
          go_wp2_with fail
          refine (put57_any HO4.out (by have := HCL.out; omega) 1 0 fr 0 0 nn).mono ?_
          rintro e w5 h5
          obtain ⟨ee, ⟨k5, v5, o5, hk5⟩, a5⟩ := h5
          have P5 := (a5.block _ (lt_of k4) (by simp; omega)).trans k4
          have y5 := Nat.lt_of_lt_of_le y4 a5.size
          have N5 : wr.heap.size ≠ k5 := by rcases hk5 with h | h <;> omega
          have A5 := aside_next A4 (.inl rfl) a5
          have K5 := hide (next_own (.inl rfl) hk5 A4.size)
          have HO5 := hide o5
          clear p0 p1 p2 p3 o5 a5 hk5 A4  HO4 N4 y4 k4
          have p0 := cell_of P5 0
          have p1 := cell_of P5 1
          have p2 := cell_of P5 2
          have p3 := cell_of P5 3
          simp at p0 p1 p2 p3
          subst ee
          have HN := hide (HNX.out _ _ _ (by have := HO5.out; (try simp only [List.append_assoc, List.cons_append, List.nil_append] at this); exact this) K5.out A5)
          clear p0 p1 p2 p3 A5 K5 HO5 N5 y5 P5 HNX
          go_wp2_with fail
          go_roundg (m - (i + 1))
          case measure => omega
          case rel => exact ⟨i + 1, fr + 1, by omega, rfl, by go_num, rfl, HNF, HN⟩
      have g4 : (op == 4) = false := by simpa using o4
      by_cases o5 : op = 5
      case pos =>
        subst o5
        have HF2 := hide (show fr = 2 + ((Lo.stk [] 0 E (i + 1)).length : Int) by have := HNF.out; simp [Lo.tk] at this; omega)
        clear HNF
        have HNF := HF2
        clear HF2
        have ep0 : Em.ep ⟨5, kk, vv, nn⟩ fr tn = [⟨6, kk, (fr - 1), (fr - 1), 0, 0⟩] := by simp [Em.ep]
        rw [ep0] at HNX
        clear ep0
        have HT3 := HTK.out
        simp [Lo.tk] at HT3
        have p0 := cell_of k4 0
        have p1 := cell_of k4 1
        have p2 := cell_of k4 2
        have p3 := cell_of k4 3
        simp at p0 p1 p2 p3
        go_wp2_with fail
        refine (put57_any HO4.out (by have := HCL.out; omega) 6 kk (fr - 1) (fr - 1) 0 0).mono ?_
        rintro e w5 h5
        obtain ⟨ee, ⟨k5, v5, o5, hk5⟩, a5⟩ := h5
        have P5 := (a5.block _ (lt_of k4) (by simp; omega)).trans k4
        have y5 := Nat.lt_of_lt_of_le y4 a5.size
        have N5 : wr.heap.size ≠ k5 := by rcases hk5 with h | h <;> omega
        have A5 := aside_next A4 (.inl rfl) a5
        have K5 := hide (next_own (.inl rfl) hk5 A4.size)
        have HO5 := hide o5
        clear p0 p1 p2 p3 o5 a5 hk5 A4  HO4 N4 y4 k4
        have p0 := cell_of P5 0
        have p1 := cell_of P5 1
        have p2 := cell_of P5 2
        have p3 := cell_of P5 3
        simp at p0 p1 p2 p3
        subst ee
        have HN := hide (HNX.out _ _ _ (by have := HO5.out; (try simp only [List.append_assoc, List.cons_append, List.nil_append] at this); exact this) K5.out A5)
        clear p0 p1 p2 p3 A5 K5 HO5 N5 y5 P5 HNX
        go_wp2_with fail
        go_roundg (m - (i + 1))
        case measure => omega
        case rel => exact ⟨i + 1, fr, by omega, rfl, by go_num, rfl, HNF, HN⟩
      have g5 : (op == 5) = false := by simpa using o5
      by_cases o6 : op = 6
      case pos =>
        subst o6
        have HF2 := hide (show fr - 1 = 2 + ((Lo.stk [] 0 E (i + 1)).length : Int) by have := HNF.out; simp [Lo.tk] at this; omega)
        clear HNF
        have HNF := HF2
        clear HF2
        have ep0 : Em.ep ⟨6, kk, vv, nn⟩ fr tn = [⟨7, kk, (fr - 2), (fr - 2), (fr - 1), 0⟩] := by simp [Em.ep]
        rw [ep0] at HNX
        clear ep0
        have HT3 := HTK.out
        simp [Lo.tk] at HT3
        have p0 := cell_of k4 0
        have p1 := cell_of k4 1
        have p2 := cell_of k4 2
        have p3 := cell_of k4 3
        simp at p0 p1 p2 p3
        go_wp2_with fail
        refine (put57_any HO4.out (by have := HCL.out; omega) 7 kk (fr - 2) (fr - 2) (fr - 1) 0).mono ?_
        rintro e w5 h5
        obtain ⟨ee, ⟨k5, v5, o5, hk5⟩, a5⟩ := h5
        have P5 := (a5.block _ (lt_of k4) (by simp; omega)).trans k4
        have y5 := Nat.lt_of_lt_of_le y4 a5.size
        have N5 : wr.heap.size ≠ k5 := by rcases hk5 with h | h <;> omega
        have A5 := aside_next A4 (.inl rfl) a5
        have K5 := hide (next_own (.inl rfl) hk5 A4.size)
        have HO5 := hide o5
        clear p0 p1 p2 p3 o5 a5 hk5 A4  HO4 N4 y4 k4
        have p0 := cell_of P5 0
        have p1 := cell_of P5 1
        have p2 := cell_of P5 2
        have p3 := cell_of P5 3
        simp at p0 p1 p2 p3
        subst ee
        have HN := hide (HNX.out _ _ _ (by have := HO5.out; (try simp only [List.append_assoc, List.cons_append, List.nil_append] at this); exact this) K5.out A5)
        clear p0 p1 p2 p3 A5 K5 HO5 N5 y5 P5 HNX
        go_wp2_with fail
        go_roundg (m - (i + 1))
        case measure => omega
        case rel => exact ⟨i + 1, fr - 1, by omega, rfl, by go_num, rfl, HNF, HN⟩
      have g6 : (op == 6) = false := by simpa using o6
      by_cases o7 : op = 7
      case pos =>
        subst o7
        have HF2 := hide (show fr - 2 = 2 + ((Lo.stk [] 0 E (i + 1)).length : Int) by have := HNF.out; simp [Lo.tk] at this; omega)
        clear HNF
        have HNF := HF2
        clear HF2
        have ep0 : Em.ep ⟨7, kk, vv, nn⟩ fr tn = [⟨8, 0, (fr - 3), (fr - 2), (fr - 1), 0⟩] := by simp [Em.ep]
        rw [ep0] at HNX
        clear ep0
        have HT3 := HTK.out
        simp [Lo.tk] at HT3
        have p0 := cell_of k4 0
        have p1 := cell_of k4 1
        have p2 := cell_of k4 2
        have p3 := cell_of k4 3
        simp at p0 p1 p2 p3
        go_wp2_with fail
        refine (put57_any HO4.out (by have := HCL.out; omega) 8 0 (fr - 3) (fr - 2) (fr - 1) 0).mono ?_
        rintro e w5 h5
        obtain ⟨ee, ⟨k5, v5, o5, hk5⟩, a5⟩ := h5
        have P5 := (a5.block _ (lt_of k4) (by simp; omega)).trans k4
        have y5 := Nat.lt_of_lt_of_le y4 a5.size
        have N5 : wr.heap.size ≠ k5 := by rcases hk5 with h | h <;> omega
        have A5 := aside_next A4 (.inl rfl) a5
        have K5 := hide (next_own (.inl rfl) hk5 A4.size)
        have HO5 := hide o5
        clear p0 p1 p2 p3 o5 a5 hk5 A4  HO4 N4 y4 k4
        have p0 := cell_of P5 0
        have p1 := cell_of P5 1
        have p2 := cell_of P5 2
        have p3 := cell_of P5 3
        simp at p0 p1 p2 p3
        subst ee
        have HN := hide (HNX.out _ _ _ (by have := HO5.out; (try simp only [List.append_assoc, List.cons_append, List.nil_append] at this); exact this) K5.out A5)
        clear p0 p1 p2 p3 A5 K5 HO5 N5 y5 P5 HNX
        go_wp2_with fail
        go_roundg (m - (i + 1))
        case measure => omega
        case rel => exact ⟨i + 1, fr - 2, by omega, rfl, by go_num, rfl, HNF, HN⟩
      have g7 : (op == 7) = false := by simpa using o7
      by_cases o8 : op = 8
      case pos =>
        subst o8
        have HF2 := hide (show fr - 1 = 2 + ((Lo.stk [] 0 E (i + 1)).length : Int) by have := HNF.out; simp [Lo.tk] at this; omega)
        clear HNF
        have HNF := HF2
        clear HF2
        have ep0 : Em.ep ⟨8, kk, vv, nn⟩ fr tn = [⟨1, 0, fr, 0, 0, 0⟩, ⟨7, 8, (fr + 1), (fr - 2), fr, 0⟩, ⟨6, 14, (fr + 1), (fr + 1), 0, 0⟩, ⟨1, 0, (fr + 2), 0, 0, nn⟩, ⟨7, 8, (fr + 2), (fr - 2), (fr + 2), 0⟩, ⟨7, 10, (fr + 1), (fr + 1), (fr + 2), 0⟩, ⟨9, 0, (fr + 2), (fr + 1), 0, 0⟩, ⟨8, 0, (fr + 2), (fr - 2), fr, 0⟩, ⟨3, 0, (fr + 2), (fr + 2), nn, vv⟩, ⟨8, 0, (fr + 1), (fr + 2), (fr - 1), 0⟩, ⟨9, 0, (fr - 2), (fr + 1), 0, 0⟩] := by simp [Em.ep]
        rw [ep0] at HNX
        clear ep0
        have HT3 := HTK.out
        simp [Lo.tk] at HT3
        have p0 := cell_of k4 0
        have p1 := cell_of k4 1
        have p2 := cell_of k4 2
        have p3 := cell_of k4 3
        simp at p0 p1 p2 p3
        go_wp2_with fail
        refine (put57_any HO4.out (by have := HCL.out; omega) 1 0 fr 0 0 0).mono ?_
        rintro e w5 h5
        obtain ⟨ee, ⟨k5, v5, o5, hk5⟩, a5⟩ := h5
        have P5 := (a5.block _ (lt_of k4) (by simp; omega)).trans k4
        have y5 := Nat.lt_of_lt_of_le y4 a5.size
        have N5 : wr.heap.size ≠ k5 := by rcases hk5 with h | h <;> omega
        have A5 := aside_next A4 (.inl rfl) a5
        have K5 := hide (next_own (.inl rfl) hk5 A4.size)
        have HO5 := hide o5
        clear p0 p1 p2 p3 o5 a5 hk5 A4  HO4 N4 y4 k4
        have p0 := cell_of P5 0
        have p1 := cell_of P5 1
        have p2 := cell_of P5 2
        have p3 := cell_of P5 3
        simp at p0 p1 p2 p3
        subst ee
        go_wp2_with fail
        refine (put57_any HO5.out (by simp; have := HCL.out; omega) 7 8 (fr + 1) (fr - 2) fr 0).mono ?_
        rintro e w6 h6
        obtain ⟨ee, ⟨k6, v6, o6, hk6⟩, a6⟩ := h6
        have P6 := (a6.block _ (lt_of P5) (by simp; omega)).trans P5
        have y6 := Nat.lt_of_lt_of_le y5 a6.size
        have N6 : wr.heap.size ≠ k6 := by rcases hk6 with h | h <;> omega
        have A6 := aside_next A5 K5.out a6
        have K6 := hide (next_own K5.out hk6 A5.size)
        have HO6 := hide o6
        clear p0 p1 p2 p3 o6 a6 hk6 A5 K5 HO5 N5 y5 P5
        have p0 := cell_of P6 0
        have p1 := cell_of P6 1
        have p2 := cell_of P6 2
        have p3 := cell_of P6 3
        simp at p0 p1 p2 p3
        subst ee
        go_wp2_with fail
        refine (put57_any HO6.out (by simp; have := HCL.out; omega) 6 14 (fr + 1) (fr + 1) 0 0).mono ?_
        rintro e w7 h7
        obtain ⟨ee, ⟨k7, v7, o7, hk7⟩, a7⟩ := h7
        have P7 := (a7.block _ (lt_of P6) (by simp; omega)).trans P6
        have y7 := Nat.lt_of_lt_of_le y6 a7.size
        have N7 : wr.heap.size ≠ k7 := by rcases hk7 with h | h <;> omega
        have A7 := aside_next A6 K6.out a7
        have K7 := hide (next_own K6.out hk7 A6.size)
        have HO7 := hide o7
        clear p0 p1 p2 p3 o7 a7 hk7 A6 K6 HO6 N6 y6 P6
        have p0 := cell_of P7 0
        have p1 := cell_of P7 1
        have p2 := cell_of P7 2
        have p3 := cell_of P7 3
        simp at p0 p1 p2 p3
        subst ee
        go_wp2_with fail
        refine (put57_any HO7.out (by simp; have := HCL.out; omega) 1 0 (fr + 2) 0 0 nn).mono ?_
        rintro e w8 h8
        obtain ⟨ee, ⟨k8, v8, o8, hk8⟩, a8⟩ := h8
        have P8 := (a8.block _ (lt_of P7) (by simp; omega)).trans P7
        have y8 := Nat.lt_of_lt_of_le y7 a8.size
        have N8 : wr.heap.size ≠ k8 := by rcases hk8 with h | h <;> omega
        have A8 := aside_next A7 K7.out a8
        have K8 := hide (next_own K7.out hk8 A7.size)
        have HO8 := hide o8
        clear p0 p1 p2 p3 o8 a8 hk8 A7 K7 HO7 N7 y7 P7
        have p0 := cell_of P8 0
        have p1 := cell_of P8 1
        have p2 := cell_of P8 2
        have p3 := cell_of P8 3
        simp at p0 p1 p2 p3
        subst ee
        go_wp2_with fail
        refine (put57_any HO8.out (by simp; have := HCL.out; omega) 7 8 (fr + 2) (fr - 2) (fr + 2) 0).mono ?_
        rintro e w9 h9
        obtain ⟨ee, ⟨k9, v9, o9, hk9⟩, a9⟩ := h9
        have P9 := (a9.block _ (lt_of P8) (by simp; omega)).trans P8
        have y9 := Nat.lt_of_lt_of_le y8 a9.size
        have N9 : wr.heap.size ≠ k9 := by rcases hk9 with h | h <;> omega
        have A9 := aside_next A8 K8.out a9
        have K9 := hide (next_own K8.out hk9 A8.size)
        have HO9 := hide o9
        clear p0 p1 p2 p3 o9 a9 hk9 A8 K8 HO8 N8 y8 P8
        have p0 := cell_of P9 0
        have p1 := cell_of P9 1
        have p2 := cell_of P9 2
        have p3 := cell_of P9 3
        simp at p0 p1 p2 p3
        subst ee
        go_wp2_with fail
        refine (put57_any HO9.out (by simp; have := HCL.out; omega) 7 10 (fr + 1) (fr + 1) (fr + 2) 0).mono ?_
        rintro e w10 h10
        obtain ⟨ee, ⟨k10, v10, o10, hk10⟩, a10⟩ := h10
        have P10 := (a10.block _ (lt_of P9) (by simp; omega)).trans P9
        have y10 := Nat.lt_of_lt_of_le y9 a10.size
        have N10 : wr.heap.size ≠ k10 := by rcases hk10 with h | h <;> omega
        have A10 := aside_next A9 K9.out a10
        have K10 := hide (next_own K9.out hk10 A9.size)
        have HO10 := hide o10
        clear p0 p1 p2 p3 o10 a10 hk10 A9 K9 HO9 N9 y9 P9
        have p0 := cell_of P10 0
        have p1 := cell_of P10 1
        have p2 := cell_of P10 2
        have p3 := cell_of P10 3
        simp at p0 p1 p2 p3
        subst ee
        go_wp2_with fail
        refine (put57_any HO10.out (by simp; have := HCL.out; omega) 9 0 (fr + 2) (fr + 1) 0 0).mono ?_
        rintro e w11 h11
        obtain ⟨ee, ⟨k11, v11, o11, hk11⟩, a11⟩ := h11
        have P11 := (a11.block _ (lt_of P10) (by simp; omega)).trans P10
        have y11 := Nat.lt_of_lt_of_le y10 a11.size
        have N11 : wr.heap.size ≠ k11 := by rcases hk11 with h | h <;> omega
        have A11 := aside_next A10 K10.out a11
        have K11 := hide (next_own K10.out hk11 A10.size)
        have HO11 := hide o11
        clear p0 p1 p2 p3 o11 a11 hk11 A10 K10 HO10 N10 y10 P10
        have p0 := cell_of P11 0
        have p1 := cell_of P11 1
        have p2 := cell_of P11 2
        have p3 := cell_of P11 3
        simp at p0 p1 p2 p3
        subst ee
        go_wp2_with fail
        refine (put57_any HO11.out (by simp; have := HCL.out; omega) 8 0 (fr + 2) (fr - 2) fr 0).mono ?_
        rintro e w12 h12
        obtain ⟨ee, ⟨k12, v12, o12, hk12⟩, a12⟩ := h12
        have P12 := (a12.block _ (lt_of P11) (by simp; omega)).trans P11
        have y12 := Nat.lt_of_lt_of_le y11 a12.size
        have N12 : wr.heap.size ≠ k12 := by rcases hk12 with h | h <;> omega
        have A12 := aside_next A11 K11.out a12
        have K12 := hide (next_own K11.out hk12 A11.size)
        have HO12 := hide o12
        clear p0 p1 p2 p3 o12 a12 hk12 A11 K11 HO11 N11 y11 P11
        have p0 := cell_of P12 0
        have p1 := cell_of P12 1
        have p2 := cell_of P12 2
        have p3 := cell_of P12 3
        simp at p0 p1 p2 p3
        subst ee
        go_wp2_with fail
        refine (put57_any HO12.out (by simp; have := HCL.out; omega) 3 0 (fr + 2) (fr + 2) nn vv).mono ?_
        rintro e w13 h13
        obtain ⟨ee, ⟨k13, v13, o13, hk13⟩, a13⟩ := h13
        have P13 := (a13.block _ (lt_of P12) (by simp; omega)).trans P12
        have y13 := Nat.lt_of_lt_of_le y12 a13.size
        have N13 : wr.heap.size ≠ k13 := by rcases hk13 with h | h <;> omega
        have A13 := aside_next A12 K12.out a13
        have K13 := hide (next_own K12.out hk13 A12.size)
        have HO13 := hide o13
        clear p0 p1 p2 p3 o13 a13 hk13 A12 K12 HO12 N12 y12 P12
        have p0 := cell_of P13 0
        have p1 := cell_of P13 1
        have p2 := cell_of P13 2
        have p3 := cell_of P13 3
        simp at p0 p1 p2 p3
        subst ee
        go_wp2_with fail
        refine (put57_any HO13.out (by simp; have := HCL.out; omega) 8 0 (fr + 1) (fr + 2) (fr - 1) 0).mono ?_
        rintro e w14 h14
        obtain ⟨ee, ⟨k14, v14, o14, hk14⟩, a14⟩ := h14
        have P14 := (a14.block _ (lt_of P13) (by simp; omega)).trans P13
        have y14 := Nat.lt_of_lt_of_le y13 a14.size
        have N14 : wr.heap.size ≠ k14 := by rcases hk14 with h | h <;> omega
        have A14 := aside_next A13 K13.out a14
        have K14 := hide (next_own K13.out hk14 A13.size)
        have HO14 := hide o14
        clear p0 p1 p2 p3 o14 a14 hk14 A13 K13 HO13 N13 y13 P13
        have p0 := cell_of P14 0
        have p1 := cell_of P14 1
        have p2 := cell_of P14 2
        have p3 := cell_of P14 3
        simp at p0 p1 p2 p3
        subst ee
        go_wp2_with fail
        refine (put57_any HO14.out (by simp; have := HCL.out; omega) 9 0 (fr - 2) (fr + 1) 0 0).mono ?_
        rintro e w15 h15
        obtain ⟨ee, ⟨k15, v15, o15, hk15⟩, a15⟩ := h15
        have P15 := (a15.block _ (lt_of P14) (by simp; omega)).trans P14
        have y15 := Nat.lt_of_lt_of_le y14 a15.size
        have N15 : wr.heap.size ≠ k15 := by rcases hk15 with h | h <;> omega
        have A15 := aside_next A14 K14.out a15
        have K15 := hide (next_own K14.out hk15 A14.size)
        have HO15 := hide o15
        clear p0 p1 p2 p3 o15 a15 hk15 A14 K14 HO14 N14 y14 P14
        have p0 := cell_of P15 0
        have p1 := cell_of P15 1
        have p2 := cell_of P15 2
        have p3 := cell_of P15 3
        simp at p0 p1 p2 p3
        subst ee
        have HN := hide (HNX.out _ _ _ (by have := HO15.out; (try simp only [List.append_assoc, List.cons_append, List.nil_append] at this); exact this) K15.out A15)
        clear p0 p1 p2 p3 A15 K15 HO15 N15 y15 P15 HNX
        go_wp2_with fail
        go_roundg (m - (i + 1))
        case measure => omega
        case rel => exact ⟨i + 1, fr - 1, by omega, rfl, by go_num, rfl, HNF, HN⟩
      have g8 : (op == 8) = false := by simpa using o8
      exact absurd HPU.out (by simp [Lo.pushOK, o1, o2, o3, o4, o5, o6, o7, o8])
end Go.Proofs.YtbiomnnlpafciaaDoor
