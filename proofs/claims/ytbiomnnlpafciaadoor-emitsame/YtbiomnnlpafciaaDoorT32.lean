import Derived.Test.YtbiomnnlpafciaaDoorT10
import Derived.WalkKit
import Derived.WalkSpells
import Derived.IntWalk
import Derived.Deep.Cut
import Derived.Deep.LoopGhost
import Derived.Laws.Cover1
import Derived.Lib.Hide
set_option linter.unusedVariables false
set_option linter.unusedSimpArgs false
set_option maxHeartbeats 64000000
set_option maxRecDepth 100000
namespace Go.Proofs.YtbiomnnlpafciaaDoor
open Go.RowKit Go.IntWalk
set_option linter.unusedVariables false
set_option linter.unusedSimpArgs false
namespace Lo
def there (c f n : Int) : Bool := decide (1 ≤ n) && hasN c f n
theorem there_has {c f n : Int} (h : 1 ≤ n) : there c f n = hasN c f n := by simp [there, h]
theorem hgt1 (c n0 h k v n : Int) (r : List Pu) (h0 : 0 ≤ h) : hgt c n0 h (⟨1, k, v, n⟩ :: r) = hgt c n0 (h + 1) r := by
  have e : tk 1 = 0 := rfl
  simp only [hgt, e, pushOK]
  rw [if_neg (by simp; omega)]
  simp
theorem hgt2 (c n0 h k v n : Int) (r : List Pu) (h0 : 0 ≤ h) : hgt c n0 h (⟨2, k, v, n⟩ :: r) = (hasN c v 1 && hgt c n0 (h + 1) r) := by
  have e : tk 2 = 0 := rfl
  have e2 : pushOK c n0 ⟨2, k, v, n⟩ = hasN c v 1 := by simp [pushOK]
  simp only [hgt, e, e2]
  cases hasN c v 1
  · simp
  · rw [if_neg (by simp; omega)]; simp
theorem hgt3 (c n0 h k v n : Int) (r : List Pu) (h0 : 0 ≤ h) : hgt c n0 h (⟨3, k, v, n⟩ :: r) = (hasN c v n0 && hgt c n0 (h + 1) r) := by
  have e : tk 3 = 0 := rfl
  have e2 : pushOK c n0 ⟨3, k, v, n⟩ = hasN c v n0 := by simp [pushOK]
  simp only [hgt, e, e2]
  cases hasN c v n0
  · simp
  · rw [if_neg (by simp; omega)]; simp
theorem hgt4 (c n0 h k v n : Int) (r : List Pu) (h0 : 0 ≤ h) : hgt c n0 h (⟨4, k, v, n⟩ :: r) = (!(decide (n < -1000000000000000000) || decide (1000000000000000000 < n)) && hgt c n0 (h + 1) r) := by
  have e : tk 4 = 0 := rfl
  have e2 : pushOK c n0 ⟨4, k, v, n⟩ = !(decide (n < -1000000000000000000) || decide (1000000000000000000 < n)) := by
    simp only [pushOK, Bool.not_or, ← decide_not]
    rw [if_neg (by decide), if_neg (by decide), if_neg (by decide), if_pos trivial]
    congr 1 <;> exact decide_eq_decide.2 (by omega)
  simp only [hgt, e, e2]
  cases (!(decide (n < -1000000000000000000) || decide (1000000000000000000 < n)))
  · simp
  · rw [if_neg (by simp; omega)]; simp
theorem hgt5 (c n0 h k v n : Int) (r : List Pu) : hgt c n0 h (⟨5, k, v, n⟩ :: r) = (!(((Kd.opT k).2.2 != 1) || decide (h < 1)) && hgt c n0 h r) := by
  have e : tk 5 = 1 := rfl
  have e2 : pushOK c n0 ⟨5, k, v, n⟩ = ((Kd.opT k).2.2 == 1) := by simp [pushOK]
  simp only [hgt, e, e2, bne]
  cases ((Kd.opT k).2.2 == 1)
  · simp
  · by_cases h1 : h < 1
    · rw [if_pos (.inl (by omega))]; simp [h1]
    · rw [if_neg (by simp; omega), show h - 1 + 1 = h by omega]; simp [h1]
theorem hgt6 (c n0 h k v n : Int) (r : List Pu) : hgt c n0 h (⟨6, k, v, n⟩ :: r) = (!(((Kd.opT k).2.2 != 2) || decide (h < 2)) && hgt c n0 (h - 1) r) := by
  have e : tk 6 = 2 := rfl
  have e2 : pushOK c n0 ⟨6, k, v, n⟩ = ((Kd.opT k).2.2 == 2) := by simp [pushOK]
  simp only [hgt, e, e2, bne]
  cases ((Kd.opT k).2.2 == 2)
  · simp
  · by_cases h1 : h < 2
    · rw [if_pos (.inl (by omega))]; simp [h1]
    · rw [if_neg (by simp; omega), show h - 2 + 1 = h - 1 by omega]; simp [h1]
theorem hgt7 (c n0 h k v n : Int) (r : List Pu) : hgt c n0 h (⟨7, k, v, n⟩ :: r) = (!decide (h < 3) && hgt c n0 (h - 2) r) := by
  have e : tk 7 = 3 := rfl
  have e2 : pushOK c n0 ⟨7, k, v, n⟩ = true := by simp [pushOK]
  simp only [hgt, e, e2]
  by_cases h1 : h < 3
  · rw [if_pos (.inl (by omega))]; simp [h1]
  · rw [if_neg (by simp; omega), show h - 3 + 1 = h - 2 by omega]; simp [h1]
theorem hgt8 (c n0 h k v n : Int) (r : List Pu) : hgt c n0 h (⟨8, k, v, n⟩ :: r) = (!(!there c v n || decide (h < 2)) && hgt c n0 (h - 1) r) := by
  have e : tk 8 = 2 := rfl
  have e2 : pushOK c n0 ⟨8, k, v, n⟩ = there c v n := by simp [pushOK, there]
  simp only [hgt, e, e2]
  cases there c v n
  · simp
  · by_cases h1 : h < 2
    · rw [if_pos (.inl (by omega))]; simp [h1]
    · rw [if_neg (by simp; omega), show h - 2 + 1 = h - 1 by omega]; simp [h1]
theorem hgtX (c n0 h op k v n : Int) (r : List Pu) (h1 : op ≠ 1) (h2 : op ≠ 2) (h3 : op ≠ 3) (h4 : op ≠ 4) (h5 : op ≠ 5) (h6 : op ≠ 6) (h7 : op ≠ 7) (h8 : op ≠ 8) : hgt c n0 h (⟨op, k, v, n⟩ :: r) = false := by
  have e2 : pushOK c n0 ⟨op, k, v, n⟩ = false := by simp [pushOK, h1, h2, h3, h4, h5, h6, h7, h8]
  simp only [hgt, e2]
  rw [if_pos (.inr trivial)]
end Lo
set_option maxHeartbeats 4000000 in
theorem there26_any (c f n : Int) {aP aG aS : Option Addr} {nP nG nS cP cG cS : Nat} (w : World) (hc : 1 ≤ c ∧ c ≤ 6000) : Calls Tryd.prog 31 #[Value.agg #[.int .i64 c, .slice aP nP cP, .slice aG nG cG, .slice aS nS cS], .int .i64 f, .int .i64 n] w fun e w' => e = .returned (.bool (Lo.there c f n)) ∧ Below w.heap.size w w' := by
  have b1 : Below w.heap.size w (w.alloc (.cells #[.int .i64 c, .slice aP nP cP, .slice aG nG cG, .slice aS nS cS] 25 (0, 0))) := (Below.refl _ _).alloc (Nat.le_refl _) _
  obtain ⟨R, hR⟩ : ∃ R, R = Lo.there c f n := ⟨_, rfl⟩
  rw [← hR]
  by_cases h1 : 0 ≤ f
  case neg =>
    have HZ := hide (show R = false by rw [hR]; simp [Lo.there, Lo.hasN]; omega)
    clear hR
    go_enter Tryd.func31, Tryd.ntmps31
    go_wp2
    go_ret
    exact ⟨by rw [HZ.out]; rfl, b1⟩
  by_cases h2 : f < c
  case neg =>
    have HZ := hide (show R = false by rw [hR]; simp [Lo.there, Lo.hasN]; omega)
    clear hR
    go_enter Tryd.func31, Tryd.ntmps31
    go_wp2
    go_ret
    exact ⟨by rw [HZ.out]; rfl, b1⟩
  by_cases h3 : 1 ≤ n
  case neg =>
    have HZ := hide (show R = false by rw [hR]; simp [Lo.there, Lo.hasN]; omega)
    clear hR
    go_enter Tryd.func31, Tryd.ntmps31
    go_wp2
    go_ret
    exact ⟨by rw [HZ.out]; rfl, b1⟩
  have hw : wrap64 (c - f) = c - f := w64_in (by unfold I64; omega)
  have HZ := hide (show R = decide (n ≤ c - f) by rw [hR]; simp only [Lo.there, Lo.hasN, decide_eq_true h3, decide_eq_true h1, Bool.true_and]; exact decide_eq_decide.2 (by omega))
  clear hR
  go_enter Tryd.func31, Tryd.ntmps31
  go_wp2
  go_ret
  exact ⟨by rw [HZ.out]; simp, b1⟩
end Go.Proofs.YtbiomnnlpafciaaDoor
namespace Go.Proofs.YtbiomnnlpafciaaDoor
open Go.RowKit Go.IntWalk
set_option linter.unusedVariables false
set_option linter.unusedSimpArgs false
set_option maxHeartbeats 32000000 in
theorem plainTree42_any {ok : Nat → Prop} {w : World} {u : Value} {E : List Pu} (c n0 : Int) {aP aG aS : Option Addr} {nP nG nS cP cG cS : Nat} (hE : HPu ok w u E) (hc : 1 ≤ c ∧ c ≤ 6000) (hn : 1 ≤ n0 ∧ n0 ≤ 300) : Calls Tryd.prog 58 #[Value.agg #[.int .i64 c, .slice aP nP cP, .slice aG nG cG, .slice aS nS cS], u, .int .i64 n0] w fun e w' => e = .returned (.bool (Lo.treeOK c n0 E)) ∧ Below w.heap.size w w' := by
  obtain ⟨aE, cE, rfl, hE1, hE2, -⟩ := hE.at
  unfold maxLen at hE2
  unfold Lo.treeOK
  obtain ⟨R, hR⟩ : ∃ R, R = Lo.hgt c n0 0 E := ⟨_, rfl⟩
  rw [← hR]
  have HR := hide (show R = Lo.hgt c n0 0 (E.drop 0) by rw [List.drop_zero]; exact hR)
  obtain ⟨ne, hne⟩ : ∃ ne, ne = E.length := ⟨_, rfl⟩
  rw [← hne] at hE1 ⊢
  have HNE := hide hne
  have HE := hide hE
  have HO := hide (fun k W => refOp_any k W)
  have HT := hide (fun v n W => there26_any c v n (aP := aP) (aG := aG) (aS := aS) (nP := nP) (nG := nG) (nS := nS) (cP := cP) (cG := cG) (cS := cS) W hc)
  have HN := hide hn
  have b0 : Below w.heap.size w (w.alloc (.cells #[.int .i64 c, .slice aP nP cP, .slice aG nG cG, .slice aS nS cS] 25 (0, 0))) := (Below.refl _ _).alloc (Nat.le_refl _) _
  have kL := heap_new w (.cells #[.int .i64 c, .slice aP nP cP, .slice aG nG cG, .slice aS nS cS] 25 (0, 0))
  clear hne hE hR hc hn
  go_enter Tryd.func58, Tryd.ntmps58
  go_upto_region 1 with fail
  generalize w.alloc (.cells #[.int .i64 c, .slice aP nP cP, .slice aG nG cG, .slice aS nS cS] 25 (0, 0)) = w1 at b0 kL ⊢
  have HEL := hide (HE.out.under b0)
  clear HE
  have HE := HEL
  clear HEL
  go_wp2_with fail
  go_loopg [7, 8] ne (fun k v7 v8 wr => ∃ (i : Nat) (h : Int), i ≤ ne ∧ k = ne - i ∧ v7 = .int .i64 h ∧ 0 ≤ h ∧ h ≤ i ∧ v8 = .int .i64 (i : Nat) ∧ Hid (R = Lo.hgt c n0 h (E.drop i)) ∧ Below w1.heap.size w1 wr)
  case atStart => exact ⟨0, 0, Nat.zero_le _, rfl, rfl, by omega, by omega, rfl, HR, Below.refl _ _⟩
  case round =>
    clear HR
    obtain ⟨i, h, hi, rfl, rfl, h0, hh, rfl, H, hbr⟩ := hrel
    have Br := b0.trans (hbr.mono b0.size)
    by_cases hlt : i < ne
    case neg =>
      have hin : i = ne := by omega
      subst hin
      have HZ := hide (show R = (h == 1) by rw [H.out, List.drop_of_length_le (by have := HNE.out; omega)]; rfl)
      clear H
      by_cases hh1 : (h == 1) = true
      · go_wp2
        go_ret
        exact ⟨by rw [HZ.out, hh1]; simp <;> omega, Br⟩
      · have hh1 : (h == 1) = false := by simpa using hh1
        go_wp2
        go_ret
        exact ⟨by rw [HZ.out, hh1]; simp <;> omega, Br⟩
    case pos =>
      have hil : i < E.length := by have := HNE.out; omega
      have hR1 := H.out
      rw [List.drop_eq_getElem_cons hil] at hR1
      obtain ⟨ao', cap', eqs, -, -, hat2⟩ := (HE.out.under hbr).at
      injection eqs with z1 z2 z3
      subst z1
      obtain ⟨bb, oo, rfl, hb, e0, e1, e2, e3⟩ := hat2 i hil
      generalize E[i] = p at e0 e1 e2 e3 hR1
      obtain ⟨op, k, v, n⟩ := p
      dsimp only at e0 e1 e2 e3 hR1
      have b2 : Below wr.heap.size wr (wr.alloc (.cells #[.int .i64 op, .int .i64 k, .int .i64 v, .int .i64 n] 59 (0, 0))) := (Below.refl _ _).alloc (Nat.le_refl _) _
      have kP := heap_new wr (.cells #[.int .i64 op, .int .i64 k, .int .i64 v, .int .i64 n] 59 (0, 0))
      have B2 := hbr.trans (b2.mono hbr.size)
      obtain ⟨E', hE'⟩ : ∃ E', E' = E.drop (i + 1) := ⟨_, rfl⟩
      rw [← hE'] at hR1
      have HE' := hide hE'
      have HR1 := hide hR1
      have ho := HO.out k
      have h5 := Lo.hgt5 c n0 h k v n E'
      have h6 := Lo.hgt6 c n0 h k v n E'
      generalize Kd.opT k = q at ho h5 h6
      obtain ⟨q1, q2, q3⟩ := q
      dsimp only at h5 h6
      have HOk := hide ho
      have H5 := hide h5
      have H6 := hide h6
      clear hat2 z2 z3 hR1 H hil hE' ho h5 h6 Br
      go_upto_region 6 with fail
      generalize wr.alloc (.cells #[.int .i64 op, .int .i64 k, .int .i64 v, .int .i64 n] 59 (0, 0)) = w3 at b2 kP B2 ⊢
      have a0 := cell_of kP 0
      have a1 := cell_of kP 1
      have a2 := cell_of kP 2
      have a3 := cell_of kP 3
      simp at a0 a1 a2 a3
      clear e0 e1 e2 e3
      go_upto_region 7 with (go_at_call 59; refine (HOk.out _).mono ?_; rintro e w5 ⟨rfl, b5⟩)
      have kP5 := (b5.block _ (lt_of kP)).trans kP
      have B5 := B2.trans (b5.mono B2.size)
      have kL5 := (B5.block _ (lt_of kL)).trans kL
      clear a0 a1 a2 a3 kP b2 B2 HOk b5 hbr
      have a0 := cell_of kP5 0
      have a1 := cell_of kP5 1
      have a2 := cell_of kP5 2
      have a3 := cell_of kP5 3
      have l0 := cell_of kL5 0
      have l1 := cell_of kL5 1
      have l2 := cell_of kL5 2
      have l3 := cell_of kL5 3
      simp at a0 a1 a2 a3 l0 l1 l2 l3
      have BW := b0.trans (B5.mono b0.size)
      by_cases g1 : op = 1
      case pos =>
        subst g1
        have HZ := hide (show R = Lo.hgt c n0 (h + 1) E' by rw [HR1.out, Lo.hgt1 c n0 h k v n E' h0])
        clear HR1 H5 H6 HT
        go_wp2_with fail
        go_roundg (ne - (i + 1))
        case measure => omega
        case rel => exact ⟨i + 1, h + 1, by omega, rfl, by go_num, by omega, by omega, by go_num, hide (by rw [HZ.out, HE'.out]), B5⟩
      have f1 : (op == 1) = false := by simpa using g1
      by_cases g2 : op = 2
      case pos =>
        subst g2
        have HQ := hide (show R = (Lo.hasN c v 1 && Lo.hgt c n0 (h + 1) E') by rw [HR1.out, Lo.hgt2 c n0 h k v n E' h0])
        have HC := hide (HT.out v 1 w5)
        clear HR1 H5 H6 HT
        have hc1 := HC.out
        have eth : Lo.there c v 1 = Lo.hasN c v 1 := Lo.there_has (by have := HN.out; omega)
        rw [eth] at hc1
        clear HC eth
        have hq := HQ.out
        clear HQ
        generalize Lo.hasN c v 1 = q at hc1 hq
        have HC := hide hc1
        have HQ := hide hq
        clear hc1 hq
        cases q
        case false =>
          have HZ := hide (show R = false by rw [HQ.out]; rfl)
          clear HQ
          go_wp2_with (go_at_call 31; refine HC.out.mono ?_; rintro e w6 ⟨rfl, b6⟩)
          go_ret
          exact ⟨by rw [HZ.out]; simp, BW.trans (b6.mono BW.size)⟩
        case true =>
          have HZ := hide (show R = Lo.hgt c n0 (h + 1) E' by rw [HQ.out]; rfl)
          clear HQ
          go_wp2_with (go_at_call 31; refine HC.out.mono ?_; rintro e w6 ⟨rfl, b6⟩)
          go_roundg (ne - (i + 1))
          case measure => omega
          case rel => exact ⟨i + 1, h + 1, by omega, rfl, by go_num, by omega, by omega, by go_num, hide (by rw [HZ.out, HE'.out]), B5.trans (b6.mono B5.size)⟩
      have f2 : (op == 2) = false := by simpa using g2
      by_cases g3 : op = 3
      case pos =>
        subst g3
        have HQ := hide (show R = (Lo.hasN c v n0 && Lo.hgt c n0 (h + 1) E') by rw [HR1.out, Lo.hgt3 c n0 h k v n E' h0])
        have HC := hide (HT.out v n0 w5)
        clear HR1 H5 H6 HT
        have hc1 := HC.out
        have eth : Lo.there c v n0 = Lo.hasN c v n0 := Lo.there_has (by have := HN.out; omega)
        rw [eth] at hc1
        clear HC eth
        have hq := HQ.out
        clear HQ
        generalize Lo.hasN c v n0 = q at hc1 hq
        have HC := hide hc1
        have HQ := hide hq
        clear hc1 hq
        cases q
        case false =>
          have HZ := hide (show R = false by rw [HQ.out]; rfl)
          clear HQ
          go_wp2_with (go_at_call 31; refine HC.out.mono ?_; rintro e w6 ⟨rfl, b6⟩)
          go_ret
          exact ⟨by rw [HZ.out]; simp, BW.trans (b6.mono BW.size)⟩
        case true =>
          have HZ := hide (show R = Lo.hgt c n0 (h + 1) E' by rw [HQ.out]; rfl)
          clear HQ
          go_wp2_with (go_at_call 31; refine HC.out.mono ?_; rintro e w6 ⟨rfl, b6⟩)
          go_roundg (ne - (i + 1))
          case measure => omega
          case rel => exact ⟨i + 1, h + 1, by omega, rfl, by go_num, by omega, by omega, by go_num, hide (by rw [HZ.out, HE'.out]), B5.trans (b6.mono B5.size)⟩
      have f3 : (op == 3) = false := by simpa using g3
      by_cases g4 : op = 4
      case pos =>
        subst g4
        have HQ := hide (HR1.out.trans (Lo.hgt4 c n0 h k v n E' h0))
        clear HR1 HT
        by_cases z1 : n < -1000000000000000000
        case pos =>
          have HZ := hide (show R = false by rw [HQ.out]; simp [z1])
          clear HQ H5 H6
          go_wp2
          go_ret
          exact ⟨by rw [HZ.out]; simp, BW⟩
        by_cases z2 : 1000000000000000000 < n
        case pos =>
          have HZ := hide (show R = false by rw [HQ.out]; simp [z2])
          clear HQ H5 H6
          go_wp2
          go_ret
          exact ⟨by rw [HZ.out]; simp, BW⟩
        have HZ := hide (show R = Lo.hgt c n0 (h + 1) E' by rw [HQ.out]; simp [z1, z2])
        clear HQ H5 H6
        go_wp2_with fail
        go_roundg (ne - (i + 1))
        case measure => omega
        case rel => exact ⟨i + 1, h + 1, by omega, rfl, by go_num, by omega, by omega, by go_num, hide (by rw [HZ.out, HE'.out]), B5⟩
      have f4 : (op == 4) = false := by simpa using g4
      by_cases g5 : op = 5
      case pos =>
        subst g5
        have HQ := hide (HR1.out.trans (H5.out))
        clear HR1 HT
        by_cases z1 : (q3 != 1) = true
        case pos =>
          have HZ := hide (show R = false by rw [HQ.out]; simp [z1])
          clear HQ H5 H6
          go_wp2
          go_ret
          exact ⟨by rw [HZ.out]; simp, BW⟩
        by_cases z2 : h < 1
        case pos =>
          have HZ := hide (show R = false by rw [HQ.out]; simp [z2])
          clear HQ H5 H6
          go_wp2
          go_ret
          exact ⟨by rw [HZ.out]; simp, BW⟩
        have HZ := hide (show R = Lo.hgt c n0 (h) E' by rw [HQ.out]; simp [z1, z2])
        clear HQ H5 H6
        go_wp2_with fail
        go_roundg (ne - (i + 1))
        case measure => omega
        case rel => exact ⟨i + 1, h, by omega, rfl, by go_num, by omega, by omega, by go_num, hide (by rw [HZ.out, HE'.out]), B5⟩
      have f5 : (op == 5) = false := by simpa using g5
      by_cases g6 : op = 6
      case pos =>
        subst g6
        have HQ := hide (HR1.out.trans (H6.out))
        clear HR1 HT
        by_cases z1 : (q3 != 2) = true
        case pos =>
          have HZ := hide (show R = false by rw [HQ.out]; simp [z1])
          clear HQ H5 H6
          go_wp2
          go_ret
          exact ⟨by rw [HZ.out]; simp, BW⟩
        by_cases z2 : h < 2
        case pos =>
          have HZ := hide (show R = false by rw [HQ.out]; simp [z2])
          clear HQ H5 H6
          go_wp2
          go_ret
          exact ⟨by rw [HZ.out]; simp, BW⟩
        have HZ := hide (show R = Lo.hgt c n0 (h - 1) E' by rw [HQ.out]; simp [z1, z2])
        clear HQ H5 H6
        go_wp2_with fail
        go_roundg (ne - (i + 1))
        case measure => omega
        case rel => exact ⟨i + 1, h - 1, by omega, rfl, by go_num, by omega, by omega, by go_num, hide (by rw [HZ.out, HE'.out]), B5⟩
      have f6 : (op == 6) = false := by simpa using g6
      by_cases g7 : op = 7
      case pos =>
        subst g7
        have HQ := hide (HR1.out.trans (Lo.hgt7 c n0 h k v n E'))
        clear HR1 HT
        by_cases z2 : h < 3
        case pos =>
          have HZ := hide (show R = false by rw [HQ.out]; simp [z2])
          clear HQ H5 H6
          go_wp2
          go_ret
          exact ⟨by rw [HZ.out]; simp, BW⟩
        have HZ := hide (show R = Lo.hgt c n0 (h - 2) E' by rw [HQ.out]; simp [z2])
        clear HQ H5 H6
        go_wp2_with fail
        go_roundg (ne - (i + 1))
        case measure => omega
        case rel => exact ⟨i + 1, h - 2, by omega, rfl, by go_num, by omega, by omega, by go_num, hide (by rw [HZ.out, HE'.out]), B5⟩
      have f7 : (op == 7) = false := by simpa using g7
      by_cases g8 : op = 8
      case pos =>
        subst g8
        have hq := HR1.out
        rw [Lo.hgt8 c n0 h k v n E'] at hq
        have hc1 := HT.out v n w5
        generalize Lo.there c v n = q at hc1 hq
        have HC := hide hc1
        have HQ := hide hq
        clear HR1 H5 H6 HT hc1 hq
        cases q
        case false =>
          have HZ := hide (show R = false by rw [HQ.out]; rfl)
          clear HQ
          go_wp2_with (go_at_call 31; refine HC.out.mono ?_; rintro e w6 ⟨rfl, b6⟩)
          go_ret
          exact ⟨by rw [HZ.out]; simp, BW.trans (b6.mono BW.size)⟩
        case true =>
          by_cases z2 : h < 2
          case pos =>
            have HZ := hide (show R = false by rw [HQ.out]; simp [z2])
            clear HQ
            go_wp2_with (go_at_call 31; refine HC.out.mono ?_; rintro e w6 ⟨rfl, b6⟩)
            go_ret
            exact ⟨by rw [HZ.out]; simp, BW.trans (b6.mono BW.size)⟩
          case neg =>
            have HZ := hide (show R = Lo.hgt c n0 (h - 1) E' by rw [HQ.out]; simp [z2])
            clear HQ
            go_wp2_with (go_at_call 31; refine HC.out.mono ?_; rintro e w6 ⟨rfl, b6⟩)
            go_roundg (ne - (i + 1))
            case measure => omega
            case rel => exact ⟨i + 1, h - 1, by omega, rfl, by go_num, by omega, by omega, by go_num, hide (by rw [HZ.out, HE'.out]), B5.trans (b6.mono B5.size)⟩
      have f8 : (op == 8) = false := by simpa using g8
      have HZ := hide (show R = false by rw [HR1.out, Lo.hgtX c n0 h op k v n E' g1 g2 g3 g4 g5 g6 g7 g8])
      clear HR1 H5 H6 HT g1 g2 g3 g4 g5 g6 g7 g8
      go_wp2
      go_ret
      exact ⟨by rw [HZ.out]; simp, BW⟩
end Go.Proofs.YtbiomnnlpafciaaDoor
