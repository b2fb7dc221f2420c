/-
  DERIVED. THE WALK of size.Same.
-/
import Derived.Test.YtjpjedigajiomaaSzW
namespace Go.Proofs.Ytjpjedigajiomaa
open Go.Shelf Go.RowKit Go.Lib Go.IntWalk Go.Maps
set_option linter.unusedVariables false
set_option linter.unusedSimpArgs false
set_option maxRecDepth 100000

/-- it has a normal form -/
def OkN (l : List Tm) : Prop := l.length ≤ 1000 ∧ ∀ t ∈ l, small t.1 = true
/-- they have the same normal form -/
def SameN (a b : List Tm) : Prop := OkN a ∧ OkN b ∧ ∃ r, NF (a.map te) r ∧ NF (b.map te) r

theorem teq_te {a b : Tm} : teq a b = true ↔ te a = te b := by
  unfold teq seq te
  rw [Lib.toList_data, Lib.toList_data]
  simp
theorem eqL_te : ∀ {l r : List Tm}, eqL teq l r = true ↔ l.map te = r.map te
  | [], [] => by simp [eqL]
  | [], _ :: _ => by simp [eqL]
  | _ :: _, [] => by simp [eqL]
  | a :: l, b :: r => by
    unfold eqL
    rw [Bool.and_eq_true, teq_te, eqL_te, List.map_cons, List.map_cons, List.cons.injEq]
theorem faultP_not {l : List Tm} {c a : Int} (h : FaultP l c a) (hc : c ≠ 0) : ¬ OkN l := by
  rintro ⟨h1, h2⟩
  rcases h with ⟨h3, _⟩ | ⟨_, i, hi, h3, _⟩ | ⟨_, _, h3, _⟩
  · omega
  · rw [h2 _ (List.getElem_mem hi)] at h3; cases h3
  · exact hc h3

set_option maxHeartbeats 8000000 in
theorem same_any {ok ok' : Nat → Prop} {w : World} {v u : Value} {a b : List Tm} (ha : HTerms ok w v a) (hb : HTerms ok' w u b) :
    Calls Try.prog 15 #[v, u] w fun e w' => ∃ q : Bool, e = .returned (.bool q) ∧ (q = true ↔ SameN a b) ∧ Below w.heap.size w w' := by
  have hna := norm_any ha
  obtain ⟨aa, ca, rfl, _, _, _⟩ := ha.at
  obtain ⟨ab, cb, rfl, _, _, _⟩ := hb.at
  clear ha
  go_enter Try.func15, Try.ntmps15
  go_wp2_with fail
  refine hna.mono ?_
  rintro e w1 ⟨ra, c1, a1, rfl, np1, b1⟩
  clear hna
  go_upto_region 2 with fail
  obtain ⟨w2, hw2⟩ : ∃ w2, w2 = w1.alloc (.cells #[.int .i64 c1, .int .i64 a1] 30 (0, 0)) := ⟨_, rfl⟩
  have b2 : Below w1.heap.size w1 w2 := by rw [hw2]; exact (Below.refl _ _).alloc (Nat.le_refl _) _
  have K2 : w2.heap[w1.heap.size]? = some (.cells #[.int .i64 c1, .int .i64 a1] 30 (0, 0)) := by rw [hw2]; exact heap_new _ _
  rw [← hw2]
  clear hw2
  have B2 := b1.trans (b2.mono b1.size)
  have hnb := norm_any (hb.keep (w' := w2) B2.size (fun i _ hl => B2.block i hl))
  clear hb
  go_wp2_with fail
  refine hnb.mono ?_
  rintro e w3 ⟨rb, c2, a2, rfl, np2, b3⟩
  clear hnb
  have K3 := (b3.block _ (lt_of K2)).trans K2
  go_upto_region 3 with fail
  obtain ⟨w4, hw4⟩ : ∃ w4, w4 = w3.alloc (.cells #[.int .i64 c2, .int .i64 a2] 30 (0, 0)) := ⟨_, rfl⟩
  have b4 : Below w3.heap.size w3 w4 := by rw [hw4]; exact (Below.refl _ _).alloc (Nat.le_refl _) _
  have K4 : w4.heap[w3.heap.size]? = some (.cells #[.int .i64 c2, .int .i64 a2] 30 (0, 0)) := by rw [hw4]; exact heap_new _ _
  rw [← hw4]
  clear hw4
  have K5 := (b4.block _ (lt_of K3)).trans K3
  have B3 := B2.trans (b3.mono B2.size)
  have B4 := B3.trans (b4.mono B3.size)
  have d0 := cell_of K4 0
  have k0 := cell_of K5 0
  simp at d0 k0
  rcases normP_cases np1 with ⟨hc1, f1⟩ | ⟨rfl, rfl, hl1, hs1, r1, own1, nf1⟩
  · have h1 : (c1 == 0) = false := by simpa using hc1
    have HF := hide (faultP_not f1 hc1)
    clear np1 np2 f1
    go_wp2
    go_ret
    exact ⟨false, rfl, ⟨fun h => (by cases h), fun h => absurd h.1 HF.out⟩, B4⟩
  · rcases normP_cases np2 with ⟨hc2, f2⟩ | ⟨rfl, rfl, hl2, hs2, r2, own2, nf2⟩
    · have h1 : (c2 == 0) = false := by simpa using hc2
      have HF := hide (faultP_not f2 hc2)
      clear np1 np2 f2 own1 nf1
      go_wp2
      go_ret
      exact ⟨false, rfl, ⟨fun h => (by cases h), fun h => absurd h.2.1 HF.out⟩, B4⟩
    · have bb : Below w1.heap.size w1 w4 := b2.trans ((b3.mono b2.size).trans (b4.mono (Nat.le_trans b2.size b3.size)))
      have heq := equalTerm_any (terms_row ((own1.below bb).row)) (terms_row ((own2.below b4).row))
      have HNF1 := hide nf1
      have HNF2 := hide nf2
      have HO1 := hide (show OkN a from ⟨hl1, hs1⟩)
      have HO2 := hide (show OkN b from ⟨hl2, hs2⟩)
      clear np1 np2 own1 own2 nf1 nf2
      go_wp2_with fail
      refine heq.mono ?_
      rintro e w5 ⟨rfl, b5⟩
      go_wp2
      go_ret
      refine ⟨_, rfl, ?_, B4.trans (b5.mono B4.size)⟩
      rw [eqL_te]
      constructor
      · intro h
        exact ⟨HO1.out, HO2.out, _, HNF1.out, h ▸ HNF2.out⟩
      · rintro ⟨_, _, r, n1, n2⟩
        rw [HNF1.out.uniq n1, HNF2.out.uniq n2]
end Go.Proofs.Ytjpjedigajiomaa
