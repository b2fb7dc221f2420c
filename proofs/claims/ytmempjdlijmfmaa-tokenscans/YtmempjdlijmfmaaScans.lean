/-
  DERIVED. THE WALKS of SameTokens and TokenScans.
-/
import Derived.Test.YtmempjdlijmfmaaRefScan
import Derived.WalkSmall
namespace Go.Proofs.Ytmempjdlijmfmaa
open Go.RowKit Go.IntWalk
set_option linter.unusedVariables false
set_option linter.unusedSimpArgs false

theorem keeps_toks {w w' : World} {g B : Nat} {L : List Tk.Tok} (h : HoldsToks w g L) (hb : Below B w w') (hg : g < B) : HoldsToks w' g L := fun i hi => by
  have := h i hi
  exact ⟨(hb.cell (p := ⟨g, i * 4, none⟩) hg).trans this.1, (hb.cell (p := ⟨g, i * 4 + 1, none⟩) hg).trans this.2.1, (hb.cell (p := ⟨g, i * 4 + 2, none⟩) hg).trans this.2.2.1, (hb.cell (p := ⟨g, i * 4 + 3, none⟩) hg).trans this.2.2.2⟩

set_option maxHeartbeats 2000000 in
theorem sameTokens_any (L : List Tk.Tok) (hL : L.length ≤ 1000000) (ao1 ao2 : Option Addr) (g1 g2 cap1 cap2 : Nat) (w : World)
    (h1 : 0 < L.length → ao1 = some ⟨g1, 0, none⟩ ∧ g1 < w.heap.size ∧ HoldsToks w g1 L) (h2 : 0 < L.length → ao2 = some ⟨g2, 0, none⟩ ∧ g2 < w.heap.size ∧ HoldsToks w g2 L) :
    Calls Try.prog 9 #[.slice ao1 L.length cap1, .slice ao2 L.length cap2] w fun e w' => e = .returned (.bool true) ∧ Below w.heap.size w w' := by
  have H1 := hide h1
  have H2 := hide h2
  clear h1 h2
  go_enter Try.func9, Try.ntmps9
  go_wp2
  go_loopw [5] (fun i wr => ∃ k : Nat, k ≤ L.length ∧ i = .int .i64 k ∧ Below w.heap.size w wr) (fun i _ => L.length - (intOf i).toNat)
  case atStart => exact ⟨0, Nat.zero_le _, rfl, Below.refl _ _⟩
  case round =>
    obtain ⟨k, hk, rfl, hbr⟩ := hrel
    by_cases hlt : k < L.length
    · obtain ⟨rfl, hg1, hT1⟩ := H1.out (by omega)
      obtain ⟨rfl, hg2, hT2⟩ := H2.out (by omega)
      obtain ⟨x0, x1, x2, x3⟩ := keeps_toks hT1 hbr hg1 k hlt
      obtain ⟨y0, y1, y2, y3⟩ := keeps_toks hT2 hbr hg2 k hlt
      clear hT1 hT2
      go_wp2_with fail
      go_quiet (fail)
      go_wp2
      go_roundw
      case rel => exact ⟨k + 1, by omega, by go_num, below_drewN hbr _⟩
      case measure => simp [intOf]; omega
    · go_wp2
      go_ret
      exact ⟨rfl, hbr⟩

set_option maxHeartbeats 8000000 in
theorem scans_walk (s : ByteArray) (hs : s.size ≤ maxLen) (w : World) :
    Calls Try.prog 3 #[.string s] w fun e w' => e = .returned (.bool true) ∧ Below w.heap.size w w' := by
  have hml := hs
  unfold maxLen at hs
  by_cases hbig : 20000 < s.size
  · go_enter Try.func3, Try.ntmps3
    go_wp2_with (go_at_call 6; refine (begun_any _).mono ?_; rintro e w' ⟨rfl, hb⟩)
    go_ret
    exact ⟨rfl, hb⟩
  · have hd2 : decide ((20000 : Int) < (s.size : Int)) = false := by simp; omega
    have hlen : (Tk.scan s.data.toList).1.length ≤ 20000 := by
      by_cases h0 : (Tk.scan s.data.toList).2.1 = 0
      · have := Tk.chain_len _ _ _ (Tk.scan_chain _ h0)
        rw [← Lib.size_eq] at this
        omega
      · rw [(Tk.scan_fault _ h0).1]; simp
    obtain ⟨R, hR⟩ : ∃ R, R = Tk.scan s.data.toList := ⟨_, rfl⟩
    rw [← hR] at hlen
    have HR := hide hR
    obtain ⟨L, fc, fa⟩ := R
    clear hR
    simp only at hlen
    go_enter Try.func3, Try.ntmps3
    go_wp2_with (go_at_call 6; refine (begun_any _).mono ?_; rintro e w0 ⟨rfl, hb0⟩)
    refine (scan_any _ _ (by omega)).mono ?_
    rintro e w1 ⟨v1, he, hown1, hb1⟩
    rw [← unhide HR] at he hown1
    subst he
    go_wp2_with fail
    refine (refScan_any _ _ (by omega)).mono ?_
    rintro e w2 ⟨v2, he, hown2, hb2⟩
    rw [← unhide HR] at he hown2
    subst he
    obtain ⟨ao1, b1, cap1, rfl, k1, m1, T1⟩ := toks_slice hown1
    obtain ⟨ao2, b2, cap2, rfl, k2, m2, T2⟩ := toks_slice hown2
    have hc := bcellB hb2
    have f0 : w2.cell? ⟨w1.heap.size, 0, none⟩ = some (.int .i64 fc) := by rw [hc.1 _ _ (by simp)]; simp
    have f1 : w2.cell? ⟨w1.heap.size, 1, none⟩ = some (.int .i64 fa) := by rw [hc.1 _ _ (by simp)]; simp
    have hz12 : w1.heap.size < w2.heap.size := by have := hb2.size; simp at this; omega
    have hB12 : Below w1.heap.size w1 w2 := ((Below.refl _ w1).alloc (Nat.le_refl _) _).trans (hb2.mono (by simp))
    have hbw : Below w.heap.size w w2 := (hb0.trans (hb1.mono hb0.size)).trans (hB12.mono (Nat.le_trans hb0.size hb1.size))
    have HT1 : Hid (0 < L.length → ao1 = some ⟨b1, 0, none⟩ ∧ b1 < w2.heap.size ∧ HoldsToks w2 b1 L) := fun h => ⟨(T1 h).1, Nat.lt_of_lt_of_le (T1 h).2.2.1 (Nat.le_of_lt hz12), keeps_toks (T1 h).2.2.2 hB12 (T1 h).2.2.1⟩
    have HT2 : Hid (0 < L.length → ao2 = some ⟨b2, 0, none⟩ ∧ b2 < w2.heap.size ∧ HoldsToks w2 b2 L) := fun h => ⟨(T2 h).1, (T2 h).2.2.1, (T2 h).2.2.2⟩
    clear hc T1 T2 hown1 hown2 hB12 hb0 hb1 hb2
    go_wp2_with fail
    have hBA : Below w2.heap.size w2 (w2.alloc (.cells #[.int .i64 fc, .int .i64 fa] 25)) := (Below.refl _ _).alloc (Nat.le_refl _) _
    refine (sameTokens_any L (by omega) ao1 ao2 b1 b2 cap1 cap2 _ (fun h => ⟨(HT1.out h).1, by have := (HT1.out h).2.1; simp; omega, keeps_toks (HT1.out h).2.2 hBA (HT1.out h).2.1⟩) (fun h => ⟨(HT2.out h).1, by have := (HT2.out h).2.1; simp; omega, keeps_toks (HT2.out h).2.2 hBA (HT2.out h).2.1⟩)).mono ?_
    rintro e w3 ⟨rfl, hb3⟩
    have hbx : Below w.heap.size w w3 := (hbw.trans (hBA.mono hbw.size)).trans (hb3.mono (by have := hbw.size; simp; omega))
    clear hBA hb3 hbw f0 f1
    go_wp2_with (go_at_call 10; refine (word_any _ _).mono ?_; rintro e w' ⟨rfl, rfl⟩)
    refine (isWord_any _ _).mono ?_
    rintro e w4 ⟨rfl, hb4⟩
    have hby := hbx.trans (hb4.mono hbx.size)
    clear hbx hb4
    go_wp2_with (go_at_call 12; refine (name_any _ _ hml).mono ?_; rintro e w' ⟨rfl, rfl⟩)
    refine (isName_any _ _ hml).mono ?_
    rintro e w5 ⟨rfl, hb5⟩
    have hbz := hby.trans (hb5.mono hby.size)
    go_wp2
    go_ret
    exact ⟨by simp, hbz⟩

end Go.Proofs.Ytmempjdlijmfmaa
