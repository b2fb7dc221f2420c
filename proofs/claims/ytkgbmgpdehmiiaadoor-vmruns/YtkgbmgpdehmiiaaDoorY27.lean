import Derived.Test.YtkgbmgpdehmiiaaDoorY11
import Derived.WalkKit
import Derived.WalkSpells
import Derived.IntWalk
import Derived.Deep.Cut
import Derived.Deep.LoopGhost
import Derived.Laws.Cover1
import Derived.Lib.Hide
set_option linter.unusedVariables false
set_option linter.unusedSimpArgs false
set_option maxHeartbeats 64000000
set_option maxRecDepth 100000
namespace Go.Proofs.YtkgbmgpdehmiiaaDoor
open Go.RowKit Go.IntWalk
set_option linter.unusedVariables false
set_option linter.unusedSimpArgs false
namespace Cd
theorem bind_map {o : Option Int} {x y z : Int} (h : z = x + y) : (o.map fun t => y + t).map (fun t => x + t) = o.map fun t => z + t := by
  cases o with
  | none => rfl
  | some t => simp; omega
theorem outer_bad {x : In} {r : List In} (h : x.op = 11) : go 10 11 none (x :: r) = none := by
  rw [go_cons]; simp [step, h]
theorem outer_plain {x : In} {r : List In} (h10 : x.op ≠ 10) (h11 : x.op ≠ 11) : go 10 11 none (x :: r) = (go 10 11 none r).map fun t => 1 + t := by
  rw [go_cons]; simp [step, h10, h11]
theorem outer_loop {x : In} {r : List In} (h : x.op = 10) (ht : 1 ≤ x.n ∧ x.n ≤ 300) : go 10 11 none (x :: r) = (go 10 11 (some x.n) r).map fun t => 1 + t := by
  rw [go_cons]; simp [step, h, ht]
theorem outer_turn {x : In} {r : List In} (h : x.op = 10) (ht : ¬ (1 ≤ x.n ∧ x.n ≤ 300)) : go 10 11 none (x :: r) = none := by
  rw [go_cons]; simp [step, h]; intro a b; omega
theorem inner_bad {m : Int} {x : In} {r : List In} (h : x.op = 10) : go 10 11 (some m) (x :: r) = none := by
  rw [go_cons]; simp [step, h]
theorem inner_plain {m : Int} {x : In} {r : List In} (h10 : x.op ≠ 10) (h11 : x.op ≠ 11) : go 10 11 (some m) (x :: r) = (go 10 11 (some m) r).map fun t => m + t := by
  rw [go_cons]; simp [step, h10, h11]
theorem inner_end {m : Int} {x : In} {r : List In} (h : x.op = 11) : go 10 11 (some m) (x :: r) = (go 10 11 none r).map fun t => m + t := by
  rw [go_cons]; simp [step, h]
theorem cost_of {l : List In} {x : Int} (h : go 10 11 none l = some x) : cost 10 11 l = x := by unfold cost; rw [h]; rfl
theorem cost_no {l : List In} (h : go 10 11 none l = none) : cost 10 11 l = 0 := by unfold cost; rw [h]; rfl
end Cd
set_option maxHeartbeats 16000000 in
theorem costOf11_any {ok : Nat → Prop} {w : World} {aL : Option Addr} {cL : Nat} {l : List Cd.In} (hl : HIns ok w (.slice aL l.length cL) l) (hlen : l.length ≤ 1000000) : Calls Tryd.prog 25 #[.slice aL l.length cL] w fun e w' => e = .returned (.int .i64 (Cd.cost 10 11 l)) ∧ Below w.heap.size w w' := by
  have HL := hide hl
  have HLEN := hide hlen
  obtain ⟨C, hC⟩ : ∃ C, C = Cd.cost 10 11 l := ⟨_, rfl⟩
  rw [← hC]
  have HV := hide hC
  obtain ⟨N, hn⟩ : ∃ n, n = l.length := ⟨_, rfl⟩
  rw [← hn]
  have HN := hide hn
  clear hl hlen hC hn
  go_enter Tryd.func25, Tryd.ntmps25
  go_wp2_with fail
  go_loopg [3, 4] N (fun k v3 v4 wr => ∃ (i : Nat) (x : Int), i ≤ N ∧ k = N - i ∧ v4 = .int .i64 (i : Nat) ∧ v3 = .int .i64 x ∧ Hid (Cd.go 10 11 none l = (Cd.go 10 11 none (l.drop i)).map fun t => x + t) ∧ Hid (0 ≤ x ∧ x ≤ 300 * i) ∧ Below w.heap.size w wr)
  case atStart => exact ⟨0, 0, Nat.zero_le _, rfl, rfl, rfl, hide (by rw [List.drop_zero]; cases Cd.go 10 11 none l <;> simp), hide ⟨by omega, by omega⟩, Below.refl _ _⟩
  case round =>
    obtain ⟨i, x, hi, rfl, rfl, rfl, H, HX, hbr⟩ := hrel
    obtain ⟨wq, hwq⟩ : ∃ wq, wq = wr := ⟨_, rfl⟩
    subst hwq
    by_cases hlt : i < N
    case neg =>
      have hin : i = N := by omega
      subst hin
      have e1 : l.drop i = [] := List.drop_of_length_le (by have := HN.out; omega)
      have HZ := hide (show C = x by rw [HV.out]; exact Cd.cost_of (by rw [H.out, e1]; simp [Cd.go]))
      clear e1 H HX
      go_wp2
      go_ret
      exact ⟨by rw [HZ.out]; rfl, hbr⟩
    case pos =>
      have hil : i < l.length := by have := HN.out; omega
      have hdr : l.drop i = l[i] :: l.drop (i + 1) := List.drop_eq_getElem_cons hil
      have hR1 := H.out
      rw [hdr] at hR1
      obtain ⟨ao', cap', eqs, -, -, hat2⟩ := (HL.out.under hbr).at
      injection eqs with q1 q2 q3
      subst q1
      obtain ⟨bb, o, rfl, hb, ⟨e0, e1, e2, e3, e4, e5⟩⟩ := hat2 i hil
      obtain ⟨y, hy⟩ : ∃ y, y = l[i] := ⟨_, rfl⟩
      rw [← hy] at e0 e1 e2 e3 e4 e5 hR1
      obtain ⟨op, kk, rr, aa, bq, nn⟩ := y
      dsimp only at e0 e1 e2 e3 e4 e5
      have hib : i ≤ 1000000 := by have := HLEN.out; omega
      have HR1 := hide hR1
      have hxx := HX.out
      have HW1 := hide (show wrap64 (x + 1) = x + 1 from w64_in (by unfold I64; omega))
      have HAT := hide hat2
      clear hat2 q2 q3 hy hdr hR1 H hxx e1 e2 e3 e4
      by_cases h11 : op = 11
      case pos =>
        subst h11
        have HZ := hide (show C = 0 by rw [HV.out]; exact Cd.cost_no (by rw [HR1.out, Cd.outer_bad rfl]; rfl))
        clear HR1 HX
        go_wp2
        go_ret
        exact ⟨by rw [HZ.out]; rfl, hbr⟩
      have g11 : (op == 11) = false := by simpa using h11
      by_cases h10 : op = 10
      case neg =>
        have g10 : (op != 10) = true := by simpa using h10
        have HZ := hide (show Cd.go 10 11 none l = (Cd.go 10 11 none (l.drop (i + 1))).map fun t => (x + 1) + t by rw [HR1.out, Cd.outer_plain h10 h11]; exact Cd.bind_map rfl)
        have HX2 := hide (show 0 ≤ x + 1 ∧ x + 1 ≤ 300 * (i + 1 : Nat) by have := HX.out; omega)
        clear HR1 HX h10 h11
        go_wp2_with fail
        go_roundg (N - (i + 1))
        case measure => omega
        case rel => exact ⟨i + 1, x + 1, by omega, rfl, by go_num, by rw [HW1.out], HZ, HX2, hbr⟩
      subst h10
      have HS : Hid (1 ≤ nn ∧ nn ≤ 300 → Cd.go 10 11 none l = ((Cd.go 10 11 (some nn) (l.drop (i + 1))).map fun t => 1 + t).map fun t => x + t) := hide fun h => by rw [HR1.out, Cd.outer_loop rfl h]
      have HT : Hid (¬ (1 ≤ nn ∧ nn ≤ 300) → C = 0) := hide fun h => by rw [HV.out]; exact Cd.cost_no (by rw [HR1.out, Cd.outer_turn rfl h]; rfl)
      clear HR1 h11 g11
      go_wp2_with fail
      go_loopg [5] (N - (i + 1)) (fun k v5 wr => ∃ (j : Nat), i + 1 ≤ j ∧ j ≤ N ∧ k = N - j ∧ v5 = .int .i64 (j : Nat) ∧ Hid (Cd.go 10 11 (some nn) (l.drop (i + 1)) = (Cd.go 10 11 (some nn) (l.drop j)).map fun t => nn * ((j : Int) - i - 1) + t) ∧ Below wq.heap.size wq wr)
      case atStart => exact ⟨i + 1, Nat.le_refl _, hlt, rfl, by go_num, hide (by rw [show nn * (((i + 1 : Nat) : Int) - i - 1) = 0 by rw [show (((i + 1 : Nat) : Int) - i - 1) = 0 by omega]; simp]; cases Cd.go 10 11 (some nn) (l.drop (i + 1)) <;> simp), Below.refl _ _⟩
      case round =>
        obtain ⟨j, hj1, hj2, rfl, rfl, HJ, hbj⟩ := hrel
        have Bj := hbr.trans (hbj.mono hbr.size)
        have f5 := (hbj.cell (p := ⟨bb, o + i * 6 + 5, none⟩) hb).trans e5
        clear e5 e0
        by_cases hjl : j < N
        case neg =>
          have hin : j = N := by omega
          subst hin
          have hZ : C = 0 := by
            by_cases h : 1 ≤ nn ∧ nn ≤ 300
            · rw [HV.out]
              exact Cd.cost_no (by rw [HS.out h, HJ.out, show l.drop j = [] from List.drop_of_length_le (by have := HN.out; omega)]; rfl)
            · exact HT.out h
          have HZ := hide hZ
          clear hZ HJ HS HT
          go_wp2
          go_ret
          exact ⟨by rw [HZ.out]; rfl, Bj⟩
        case pos =>
          have hjl2 : j < l.length := by have := HN.out; omega
          have hjb : j ≤ 1000000 := by have := HLEN.out; omega
          have hdj : l.drop j = l[j] :: l.drop (j + 1) := List.drop_eq_getElem_cons hjl2
          have hJ := HJ.out
          rw [hdj] at hJ
          obtain ⟨b2, o2, eab, hb2, ⟨d0, d1, d2, d3, d4, d5⟩⟩ := HAT.out j hjl2
          injection eab with eab
          injection eab with eb eo _
          subst eb eo
          obtain ⟨z, hz⟩ : ∃ z, z = l[j] := ⟨_, rfl⟩
          rw [← hz] at d0 hJ
          have f0 := (hbj.cell (p := ⟨bb, o + j * 6, none⟩) hb).trans d0
          obtain ⟨oz, kz, rz, az, bz, nz⟩ := z
          dsimp only at f0
          have HJ2 := hide hJ
          clear hdj hJ HJ hz d0 d1 d2 d3 d4 d5 hb2
          by_cases m11 : oz = 11
          case neg =>
            have n11 : (oz != 11) = true := by simpa using m11
            by_cases m10 : oz = 10
            case pos =>
              subst m10
              have hZ : C = 0 := by
                by_cases h : 1 ≤ nn ∧ nn ≤ 300
                · rw [HV.out]
                  exact Cd.cost_no (by rw [HS.out h, HJ2.out, Cd.inner_bad rfl]; rfl)
                · exact HT.out h
              have HZ := hide hZ
              clear hZ HJ2 HS HT
              go_wp2
              go_ret
              exact ⟨by rw [HZ.out]; rfl, Bj⟩
            case neg =>
              have n10 : (oz == 10) = false := by simpa using m10
              have HZ := hide (show Cd.go 10 11 (some nn) (l.drop (i + 1)) = (Cd.go 10 11 (some nn) (l.drop (j + 1))).map fun t => nn * (((j + 1 : Nat) : Int) - i - 1) + t by
                rw [HJ2.out, Cd.inner_plain m10 m11]
                exact Cd.bind_map (by
                  have e := Int.mul_add nn ((j : Int) - i - 1) 1
                  rw [show ((j : Int) - i - 1) + 1 = ((j + 1 : Nat) : Int) - i - 1 by omega] at e
                  omega))
              clear HJ2 m10 m11
              go_wp2_with fail
              go_roundg (N - (j + 1))
              case measure => omega
              case rel => exact ⟨j + 1, by omega, by omega, rfl, by go_num, HZ, hbj⟩
          case pos =>
            subst m11
            have HE := hide (show Cd.go 10 11 (some nn) (l.drop (i + 1)) = (Cd.go 10 11 none (l.drop (j + 1))).map fun t => nn * ((j : Int) - i) + t by
              rw [HJ2.out, Cd.inner_end rfl]
              exact Cd.bind_map (by
                have e := Int.mul_add nn ((j : Int) - i - 1) 1
                rw [show ((j : Int) - i - 1) + 1 = (j : Int) - i by omega] at e
                omega))
            clear HJ2
            have njN : ((j : Int) == (N : Int)) = false := by simp; omega
            by_cases t1 : 1 ≤ nn
            case neg =>
              have HZ := hide (HT.out (by omega))
              clear HE HS HT
              go_wp2
              go_ret
              exact ⟨by rw [HZ.out]; rfl, Bj⟩
            by_cases t2 : nn ≤ 300
            case neg =>
              have HZ := hide (HT.out (by omega))
              clear HE HS HT
              go_wp2
              go_ret
              exact ⟨by rw [HZ.out]; rfl, Bj⟩
            have hd1 : 0 ≤ nn * ((j : Int) - i) := Int.mul_nonneg (by omega) (by omega)
            have hd2 : nn * ((j : Int) - i) ≤ 300 * ((j : Int) - i) := Int.mul_le_mul_of_nonneg_right t2 (by omega)
            have hxx := HX.out
            have HZ := hide (show Cd.go 10 11 none l = (Cd.go 10 11 none (l.drop (j + 1))).map fun t => (x + 1 + nn * ((j : Int) - i)) + t by
              rw [HS.out ⟨t1, t2⟩, HE.out, Cd.bind_map rfl]
              exact Cd.bind_map (by omega))
            have HX2 := hide (show 0 ≤ x + 1 + nn * ((j : Int) - i) ∧ x + 1 + nn * ((j : Int) - i) ≤ 300 * (j + 1 : Nat) by generalize nn * ((j : Int) - i) = p at hd1 hd2 ⊢; omega)
            have hw3 : wrap64 (nn * ((j : Int) - i)) = nn * ((j : Int) - i) := w64_in (by generalize nn * ((j : Int) - i) = p at hd1 hd2 ⊢; unfold I64; omega)
            have hw4 : wrap64 (x + 1 + nn * ((j : Int) - i)) = x + 1 + nn * ((j : Int) - i) := w64_in (by have h := HX2.out; generalize nn * ((j : Int) - i) = p at hd1 hd2 h ⊢; unfold I64; omega)
            have hw2 : wrap64 ((j : Int) - i) = (j : Int) - i := w64_in (by unfold I64; omega)
            have HWW := hide (show wrap64 (wrap64 (x + 1) + wrap64 (nn * ((j : Int) - i))) = x + 1 + nn * ((j : Int) - i) by rw [HW1.out, hw3, hw4])
            clear hxx HE HS HT hd1 hd2 hw2 hw3 hw4
            go_wp2_with fail
            go_roundg (N - (j + 1))
            case measure => omega
            case rel => exact ⟨j + 1, _, by omega, rfl, by go_num, by rw [HWW.out], HZ, HX2, Bj⟩
end Go.Proofs.YtkgbmgpdehmiiaaDoor
