/-
  DERIVED. THE WALK of TokenJoins.
-/
import Derived.Test.YtmempjdlijmfmaaBegun
import Derived.Test.YtmempjdlijmfmaaJoinMath
import Derived.Deep.QuietTactic
import Derived.BigQuiet
import Derived.WalkSmall
namespace Go.Proofs.Ytmempjdlijmfmaa
open Go.RowKit Go.IntWalk
set_option linter.unusedVariables false
set_option linter.unusedSimpArgs false

theorem cat_list (a b : ByteArray) : (a ++ ⟨#[10]⟩ ++ b).data.toList = a.data.toList ++ 10 :: b.data.toList := by
  simp

/-- a fault's two cells, still there -/
theorem fault_cells {w w1 : World} {x y : Value} (h : Below (w.alloc (.cells #[x, y] 25)).heap.size (w.alloc (.cells #[x, y] 25)) w1) :
    w1.cell? ⟨w.heap.size, 0, none⟩ = some x ∧ w1.cell? ⟨w.heap.size, 1, none⟩ = some y ∧ w.heap.size < w1.heap.size := by
  obtain ⟨hc, hf⟩ := bcellB h
  refine ⟨?_, ?_, ?_⟩
  · rw [hc _ _ (by simp)]; simp
  · rw [hc _ _ (by simp)]; simp
  · have := h.size; simp at this; omega

theorem holds_below {w w' : World} {g B : Nat} {L : List Tk.Tok} (h : HoldsToks w g L) (hb : Below B w w') (hg : g < B) : HoldsToks w' g L := fun i hi => by
  have := h i hi
  exact ⟨(hb.cell (p := ⟨g, i * 4, none⟩) hg).trans this.1, (hb.cell (p := ⟨g, i * 4 + 1, none⟩) hg).trans this.2.1, (hb.cell (p := ⟨g, i * 4 + 2, none⟩) hg).trans this.2.2.1, (hb.cell (p := ⟨g, i * 4 + 3, none⟩) hg).trans this.2.2.2⟩

set_option maxHeartbeats 8000000 in
set_option maxRecDepth 100000 in
theorem joins_walk (a b : ByteArray) (ha : a.size ≤ maxLen) (hb : b.size ≤ maxLen) (w : World) :
    Calls Try.prog 5 #[.string a, .string b] w fun e w' => e = .returned (.bool true) ∧ Below w.heap.size w w' := by
  unfold maxLen at ha hb
  by_cases ha1 : 5900 < a.size
  · go_enter Try.func5, Try.ntmps5
    go_wp2_with (go_at_call 6; refine (begun_any _).mono ?_; rintro e w' ⟨rfl, hb⟩)
    go_ret
    exact ⟨rfl, hb⟩
  · by_cases hb1 : 5900 < b.size
    · go_enter Try.func5, Try.ntmps5
      go_wp2_with (go_at_call 6; refine (begun_any _).mono ?_; rintro e w' ⟨rfl, hb⟩)
      go_ret
      exact ⟨rfl, hb⟩
    · have da : decide ((5900 : Int) < (a.size : Int)) = false := by simp; omega
      have db : decide ((5900 : Int) < (b.size : Int)) = false := by simp; omega
      have hJ := Tk.scan_join a.data.toList b.data.toList (by rw [← Lib.size_eq, ← Lib.size_eq]; omega)
      rw [← cat_list, ← Lib.size_eq] at hJ
      have hCA := Tk.scan_chain a.data.toList
      have hCB := Tk.scan_chain b.data.toList
      have hFB := Tk.scan_fault b.data.toList
      rw [← Lib.size_eq] at hFB
      obtain ⟨A, hA⟩ : ∃ A, A = Tk.scan a.data.toList := ⟨_, rfl⟩
      obtain ⟨B, hB⟩ : ∃ B, B = Tk.scan b.data.toList := ⟨_, rfl⟩
      obtain ⟨J, hJe⟩ : ∃ J, J = Tk.scan (a ++ ⟨#[10]⟩ ++ b).data.toList := ⟨_, rfl⟩
      rw [← hJe, ← hA, ← hB] at hJ
      rw [← hA] at hCA
      rw [← hB] at hCB hFB
      have HA := hide hA
      have HB := hide hB
      have HJ := hide hJe
      clear hA hB hJe
      obtain ⟨L1, c1, p1⟩ := A
      obtain ⟨L2, c2, p2⟩ := B
      obtain ⟨L3, c3, p3⟩ := J
      simp only at hJ hCA hCB hFB
      have HJJ := hide hJ
      have HCA := hide hCA
      have HCB := hide hCB
      have HFB := hide hFB
      clear hJ hCA hCB hFB
      go_enter Try.func5, Try.ntmps5
      go_wp2_with (go_at_call 6; refine (begun_any _).mono ?_; rintro e w0 ⟨rfl, hb0⟩)
      refine (scan_any _ _ (by omega)).mono ?_
      rintro e w1 ⟨v1, he, hown1, hb1⟩
      rw [← unhide HA] at he hown1
      subst he
      go_wp2_with fail
      refine (scan_any _ _ (by omega)).mono ?_
      rintro e w2 ⟨v2, he, hown2, hb2⟩
      rw [← unhide HB] at he hown2
      subst he
      go_wp2_with fail
      refine (scan_any _ _ (by have h1 : (⟨#[10]⟩ : ByteArray).size = 1 := rfl; simp [h1]; omega)).mono ?_
      rintro e w3 ⟨v3, he, hown3, hb3⟩
      rw [← unhide HJ] at he hown3
      subst he
      obtain ⟨f20, f21, hz12⟩ := fault_cells hb2
      obtain ⟨g0, g1, hz23⟩ := fault_cells hb3
      have hk3 := bcellB hb3
      have f0 : w3.cell? ⟨w1.heap.size, 0, none⟩ = some (.int .i64 c1) := by rw [hk3.1 _ _ (by simp; omega)]; simpa [hz12, World.cell?_alloc_lt] using f20
      have f1 : w3.cell? ⟨w1.heap.size, 1, none⟩ = some (.int .i64 p1) := by rw [hk3.1 _ _ (by simp; omega)]; simpa [hz12, World.cell?_alloc_lt] using f21
      have hz13 : w1.heap.size < w3.heap.size := by omega
      have hbw : Below w.heap.size w w3 := by
        have s0 := hb0.size
        have s1 := hb1.size
        have h1 := (hb0.trans (hb1.mono s0)).alloc (by omega) (.cells #[.int .i64 c1, .int .i64 p1] 25)
        have h2 := (h1.trans (hb2.mono (by simp; omega))).alloc (by omega) (.cells #[.int .i64 c2, .int .i64 p2] 25)
        exact h2.trans (hb3.mono (by simp; omega))
      clear f20 f21 hk3 hb0
      by_cases hc1 : c1 = 0
      · by_cases hc2 : c2 = 0
        · subst hc1 hc2
          have e := HJJ.out
          simp only [ne_eq, not_true_eq_false, if_false, Prod.mk.injEq] at e
          obtain ⟨hL3, rfl, rfl⟩ := e
          have hl3 : L3.length = L1.length + L2.length := by rw [hL3]; simp
          have hn1 := Tk.chain_len _ _ _ (HCA.out rfl)
          have hn2 := Tk.chain_len _ _ _ (HCB.out rfl)
          have hpl := Tk.chain_place _ _ _ (HCB.out rfl)
          rw [← Lib.size_eq] at hn1 hn2 hpl
          simp only [Nat.sub_zero] at hn1 hn2
          obtain ⟨ao1, b1, cap1, rfl, k1, m1, T1⟩ := toks_slice hown1
          obtain ⟨ao2, b2, cap2, rfl, k2, m2, T2⟩ := toks_slice hown2
          obtain ⟨ao3, b3, cap3, rfl, k3, m3, T3⟩ := toks_slice hown3
          have hB23 : Below w2.heap.size w2 w3 := ((Below.refl _ w2).alloc (Nat.le_refl _) _).trans (hb3.mono (by simp))
          have hB12 : Below w1.heap.size w1 w2 := ((Below.refl _ w1).alloc (Nat.le_refl _) _).trans (hb2.mono (by simp))
          have hB13 : Below w1.heap.size w1 w3 := hB12.trans (hB23.mono (by omega))
          have HT1 : Hid (0 < L1.length → ao1 = some ⟨b1, 0, none⟩ ∧ b1 < w1.heap.size ∧ HoldsToks w3 b1 L1) := fun h => ⟨(T1 h).1, (T1 h).2.2.1, holds_below (T1 h).2.2.2 hB13 (T1 h).2.2.1⟩
          have HT2 : Hid (0 < L2.length → ao2 = some ⟨b2, 0, none⟩ ∧ b2 < w2.heap.size ∧ HoldsToks w3 b2 L2) := fun h => ⟨(T2 h).1, (T2 h).2.2.1, holds_below (T2 h).2.2.2 hB23 (T2 h).2.2.1⟩
          have HT3 : Hid (0 < L3.length → ao3 = some ⟨b3, 0, none⟩ ∧ b3 < w3.heap.size ∧ HoldsToks w3 b3 L3) := fun h => ⟨(T3 h).1, (T3 h).2.2.1, (T3 h).2.2.2⟩
          have HL3 := hide hL3
          have HPL := hide hpl
          rw [hl3] at k3 ⊢
          unfold maxLen at m1 m2 m3
          have hlb : (((L1.length : Int) + (L2.length : Int)) != ((L1.length : Int) + (L2.length : Int))) = false := by simp
          clear T1 T2 T3 hB12 hB23 hB13 hown1 hown2 hown3 hb1 hb2 hb3 HJJ hL3 hpl HCA HCB HFB
          go_wp2
          go_loopw [11] (fun i wr => ∃ k : Nat, k ≤ L1.length + L2.length ∧ i = .int .i64 k ∧ Below w3.heap.size w3 wr) (fun i _ => L1.length + L2.length - (intOf i).toNat)
          case atStart => exact ⟨0, Nat.zero_le _, rfl, (Below.refl _ _).alloc (Nat.le_refl _) _⟩
          case round =>
            obtain ⟨k, hk, rfl, hbr⟩ := hrel
            have hzr := hbr.size
            by_cases hlt : k < L1.length + L2.length
            · obtain ⟨rfl, hg3, hH3⟩ := HT3.out (by omega)
              by_cases hk1 : k < L1.length
              · obtain ⟨rfl, hg1, hH1⟩ := HT1.out (by omega)
                obtain ⟨n0, n1, n2, n3⟩ := holds_below hH3 hbr hg3 k (by omega)
                obtain ⟨x0, x1, x2, x3⟩ := holds_below hH1 hbr (by omega) k hk1
                have hek : L3[k]'(by omega) = L1[k] := by
                  have h9 := HL3.out
                  simp only [h9]
                  rw [List.getElem_append_left hk1]
                rw [hek] at n0 n1 n2 n3
                have hgr1 : b1 < wr.heap.size := by omega
                have hgr3 : b3 < wr.heap.size := by omega
                clear hek hH3 hH1
                go_wp2_with fail
                go_quiet (fail)
                go_wp2
                go_roundw
                case rel => exact ⟨k + 1, by omega, by go_num, below_drewN (hbr.alloc hzr _) _⟩
                case measure => simp [intOf]; omega
              · obtain ⟨j, rfl⟩ : ∃ j, k = L1.length + j := ⟨k - L1.length, by omega⟩
                have hj2 : j < L2.length := by omega
                obtain ⟨rfl, hg2, hH2⟩ := HT2.out (by omega)
                obtain ⟨n0, n1, n2, n3⟩ := holds_below hH3 hbr hg3 (L1.length + j) (by omega)
                obtain ⟨x0, x1, x2, x3⟩ := holds_below hH2 hbr (by omega) j hj2
                have hek : L3[L1.length + j]'(by omega) = Tk.shift (a.size + 1) L2[j] := by
                  have h9 := HL3.out
                  simp only [h9]
                  rw [List.getElem_append_right (by omega)]
                  simp
                rw [hek] at n0 n1 n2 n3
                have hpj := HPL.out L2[j] (List.getElem_mem hj2)
                simp only [Tk.shift] at n0 n1 n2 n3
                have e1 : (((L2[j]).place + (a.size + 1) : Nat) : Int) = ((L2[j]).place : Int) + ((a.size : Int) + 1) := by omega
                rw [e1] at n1
                have hgr2 : b2 < wr.heap.size := by omega
                have hgr3 : b3 < wr.heap.size := by omega
                have hk1' : decide (((L1.length + j : Nat) : Int) < (L1.length : Int)) = false := by simp; omega
                clear hek hH3 hH2 e1
                go_wp2_with fail
                go_quiet (fail)
                go_wp2
                go_roundw
                case rel => exact ⟨L1.length + j + 1, by omega, by go_num, below_drewN (hbr.alloc hzr _) _⟩
                case measure => simp [intOf]; omega
            · go_wp2
              go_ret
              exact ⟨rfl, hbw.trans (hbr.mono hbw.size)⟩
        · subst hc1
          have e := HJJ.out
          simp only [ne_eq, not_true_eq_false, if_false] at e
          rw [if_pos hc2] at e
          simp only [Prod.mk.injEq] at e
          obtain ⟨rfl, rfl, rfl⟩ := e
          have hp2 := (HFB.out hc2).2
          have hp20 : 0 ≤ p2 := hp2.1
          have hp21 : p2 ≤ (b.size : Int) := hp2.2
          have hcb : (c3 == 0) = false := by simpa using hc2
          clear hc2 hown1 hown2 hown3 hb1 hb2 hb3 HJJ hp2
          go_wp2
          go_ret
          exact ⟨ret_bool (by simp; omega), hbw.alloc hbw.size _⟩
      · have e := HJJ.out
        rw [if_pos hc1] at e
        simp only [Prod.mk.injEq] at e
        obtain ⟨rfl, rfl, rfl⟩ := e
        have hcb : (c3 == 0) = false := by simpa using hc1
        clear hc1 hown1 hown2 hown3 hb1 hb2 hb3 HJJ
        go_wp2
        go_ret
        exact ⟨by simp, hbw.alloc hbw.size _⟩

end Go.Proofs.Ytmempjdlijmfmaa
