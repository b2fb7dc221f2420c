/-
  DERIVED. THE WALKS of the document's own SameSize and indexOf.
-/
import Derived.Test.YtjpjedigajiomaaSzJ
namespace Go.Proofs.Ytjpjedigajiomaa
open Go.Shelf Go.RowKit Go.Lib Go.IntWalk Go.Maps
set_option linter.unusedVariables false
set_option linter.unusedSimpArgs false
set_option maxRecDepth 100000

set_option maxHeartbeats 8000000 in
theorem sameSize_any {ok ok' : Nat → Prop} {w : World} {v u : Value} {a b : List Tm} (ha : HTerms ok w v a) (hb : HTerms ok' w u b) :
    Calls Try.prog 16 #[v, u] w fun e w' => ∃ q : Bool, e = .returned (.bool q) ∧ (q = true ↔ SameN a b) ∧ Below w.heap.size w w' := by
  have hna := refNorm_any ha
  obtain ⟨aa, ca, rfl, _, _, _⟩ := ha.at
  obtain ⟨ab, cb, rfl, _, _, _⟩ := hb.at
  clear ha
  go_enter Try.func16, Try.ntmps16
  go_wp2_with fail
  refine hna.mono ?_
  rintro e w1 ⟨ra, c1, a1, rfl, np1, b1⟩
  clear hna
  go_upto_region 2 with fail
  obtain ⟨w2, hw2⟩ : ∃ w2, w2 = w1.alloc (.cells #[.int .i64 c1, .int .i64 a1] 30 (0, 0)) := ⟨_, rfl⟩
  have b2 : Below w1.heap.size w1 w2 := by rw [hw2]; exact (Below.refl _ _).alloc (Nat.le_refl _) _
  have K2 : w2.heap[w1.heap.size]? = some (.cells #[.int .i64 c1, .int .i64 a1] 30 (0, 0)) := by rw [hw2]; exact heap_new _ _
  rw [← hw2]
  clear hw2
  have B2 := b1.trans (b2.mono b1.size)
  have hnb := refNorm_any (hb.keep (w' := w2) B2.size (fun i _ hl => B2.block i hl))
  clear hb
  go_wp2_with fail
  refine hnb.mono ?_
  rintro e w3 ⟨rb, c2, a2, rfl, np2, b3⟩
  clear hnb
  have K3 := (b3.block _ (lt_of K2)).trans K2
  go_upto_region 3 with fail
  obtain ⟨w4, hw4⟩ : ∃ w4, w4 = w3.alloc (.cells #[.int .i64 c2, .int .i64 a2] 30 (0, 0)) := ⟨_, rfl⟩
  have b4 : Below w3.heap.size w3 w4 := by rw [hw4]; exact (Below.refl _ _).alloc (Nat.le_refl _) _
  have K4 : w4.heap[w3.heap.size]? = some (.cells #[.int .i64 c2, .int .i64 a2] 30 (0, 0)) := by rw [hw4]; exact heap_new _ _
  rw [← hw4]
  clear hw4
  have K5 := (b4.block _ (lt_of K3)).trans K3
  have B3 := B2.trans (b3.mono B2.size)
  have B4 := B3.trans (b4.mono B3.size)
  have d0 := cell_of K4 0
  have k0 := cell_of K5 0
  simp at d0 k0
  rcases normP_cases np1 with ⟨hc1, f1⟩ | ⟨rfl, rfl, hl1, hs1, r1, own1, nf1⟩
  · have h1 : (c1 == 0) = false := by simpa using hc1
    have HF := hide (faultP_not f1 hc1)
    clear np1 np2 f1
    go_wp2
    go_ret
    exact ⟨false, rfl, ⟨fun h => (by cases h), fun h => absurd h.1 HF.out⟩, B4⟩
  · rcases normP_cases np2 with ⟨hc2, f2⟩ | ⟨rfl, rfl, hl2, hs2, r2, own2, nf2⟩
    · have h1 : (c2 == 0) = false := by simpa using hc2
      have HF := hide (faultP_not f2 hc2)
      clear np1 np2 f2 own1 nf1
      go_wp2
      go_ret
      exact ⟨false, rfl, ⟨fun h => (by cases h), fun h => absurd h.2.1 HF.out⟩, B4⟩
    · have bb : Below w1.heap.size w1 w4 := b2.trans ((b3.mono b2.size).trans (b4.mono (Nat.le_trans b2.size b3.size)))
      have heq := sameTerms_any (terms_row ((own1.below bb).row)) (terms_row ((own2.below b4).row))
      have HNF1 := hide nf1
      have HNF2 := hide nf2
      have HO1 := hide (show OkN a from ⟨hl1, hs1⟩)
      have HO2 := hide (show OkN b from ⟨hl2, hs2⟩)
      clear np1 np2 own1 own2 nf1 nf2
      go_wp2_with fail
      refine heq.mono ?_
      rintro e w5 ⟨rfl, b5⟩
      go_wp2
      go_ret
      refine ⟨_, rfl, ?_, B4.trans (b5.mono B4.size)⟩
      rw [eqL_te]
      constructor
      · intro h
        exact ⟨HO1.out, HO2.out, _, HNF1.out, h ▸ HNF2.out⟩
      · rintro ⟨_, _, r, n1, n2⟩
        rw [HNF1.out.uniq n1, HNF2.out.uniq n2]
/-- a name's first place, or -1 -/
def fstI (names : List ByteArray) (s : List UInt8) : Option Nat := names.findIdx? fun x => x.data.toList == s
theorem fst_hit {names : List ByteArray} {s : List UInt8} {i : Nat} (hi : i < names.length) (h1 : (names[i]).data.toList = s) (h2 : ∀ j (hj : j < names.length), j < i → (names[j]).data.toList ≠ s) : fstI names s = some i := by
  unfold fstI
  rw [List.findIdx?_eq_some_iff_getElem]
  exact ⟨hi, by simp [h1], fun j hj => by simpa using h2 j (by omega) hj⟩
theorem fst_miss {names : List ByteArray} {s : List UInt8} (h : ∀ j (hj : j < names.length), (names[j]).data.toList ≠ s) : fstI names s = none := by
  unfold fstI
  rw [List.findIdx?_eq_none_iff]
  intro x hx
  obtain ⟨j, hj, rfl⟩ := List.mem_iff_getElem.1 hx
  simpa using h j hj

set_option maxHeartbeats 2000000 in
theorem indexOf_any {ok : Nat → Prop} {w : World} {v : Value} {names : List ByteArray} {s : ByteArray} (hn : HNames ok w v names) :
    Calls Try.prog 25 #[v, .string s] w fun e w' => e = .returned (.int .i64 (ixI (fstI names s.data.toList))) ∧ w' = w := by
  obtain ⟨ao, cap, rfl, hc1, hc2, hat⟩ := hn.at
  unfold maxLen at hc2
  go_enter Try.func25, Try.ntmps25
  go_wp2_with fail
  go_loopg [5] names.length (fun gh s5 wr => ∃ i : Nat, s5 = .int .i64 (i : Int) ∧ i ≤ names.length ∧ names.length ≤ gh + i ∧ Hid (∀ j (hj : j < names.length), j < i → (names[j]).data.toList ≠ s.data.toList) ∧ wr = w)
  case atStart => exact ⟨0, rfl, by omega, by omega, hide (fun j hj h => absurd h (Nat.not_lt_zero _)), rfl⟩
  case round =>
    obtain ⟨i, rfl, hin, hgi, HN, rfl⟩ := hrel
    by_cases hlt : i < names.length
    case neg =>
      have hge : ¬ (i : Int) < (names.length : Int) := by omega
      go_wp2
      go_ret
      exact ⟨by rw [fst_miss (fun j hj => HN.out j hj (by omega))]; rfl, rfl⟩
    case pos =>
      have hltI : (i : Int) < (names.length : Int) := by omega
      obtain ⟨b, o, rfl, hb, c0⟩ := hat i hlt
      clear hat
      have HH := hide (fun h => fst_hit (names := names) (s := s.data.toList) hlt h HN.out)
      have HN2 := hide (fun (h : (names[i]).data.toList ≠ s.data.toList) j (hj : j < names.length) (hji : j < i + 1) => (show (names[j]).data.toList ≠ s.data.toList by
        by_cases e : j = i
        · subst e; exact h
        · exact HN.out j hj (by omega)))
      generalize names[i] = x at c0 HH HN2
      cases hEq : (x.toList == s.toList) with
      | true =>
        go_wp2
        go_ret
        exact ⟨by rw [HH.out (seq_iff.1 hEq)]; rfl, rfl⟩
      | false =>
        go_wp2_with fail
        go_roundg (gk - 1)
        case measure => omega
        case rel => exact ⟨i + 1, by go_num, by omega, by omega, hide (HN2.out (fun e => by rw [seq_iff.2 e] at hEq; cases hEq)), rfl⟩
/-- the place that counts -/
theorem plc_fst {names : List ByteArray} {k : Nat} {s : List UInt8} (hs : s ≠ []) : plc names k s = match fstI names s with
    | none => none
    | some q => if q < k then some q else none := by
  unfold plc fstI
  rw [if_neg hs]
  cases h : names.findIdx? (fun x => x.data.toList == s) with
  | none =>
    simp only
    rw [List.findIdx?_eq_none_iff] at h ⊢
    exact fun x hx => h x (List.mem_of_mem_take hx)
  | some q =>
    simp only
    rw [List.findIdx?_eq_some_iff_getElem] at h
    obtain ⟨hq, h1, h2⟩ := h
    by_cases hk : q < k
    · rw [if_pos hk, List.findIdx?_eq_some_iff_getElem]
      refine ⟨by rw [List.length_take]; omega, by rw [List.getElem_take]; exact h1, fun j hj => by rw [List.getElem_take]; exact h2 j hj⟩
    · rw [if_neg hk, List.findIdx?_eq_none_iff]
      intro x hx
      obtain ⟨j, hj, rfl⟩ := List.mem_iff_getElem.1 hx
      rw [List.length_take] at hj
      rw [List.getElem_take]
      simpa using h2 j (by omega)

end Go.Proofs.Ytjpjedigajiomaa
