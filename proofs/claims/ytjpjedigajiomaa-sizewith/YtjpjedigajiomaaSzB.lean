/-
  DERIVED. THE WALK of sizeBegun.
-/
import Derived.Test.YtjpjedigajiomaaSzT
namespace Go.Proofs.Ytjpjedigajiomaa
open Go.Shelf Go.RowKit Go.Lib Go.IntWalk Go.Maps
set_option linter.unusedVariables false
set_option linter.unusedSimpArgs false
set_option maxRecDepth 100000

theorem blk_terms {w : World} {g c : Nat} {l : List Tm} {sp : List Value} (h : Blk w g l sp) (hc : l.length ≤ c) (hm : c ≤ maxLen) (hs : l.length * 2 + sp.length = c * 2) : HTerms (fun i => g ≤ i) w (.slice (some ⟨g, 0, none⟩) l.length c) l :=
  terms_row (blk_own (B := g) h (Nat.le_refl _) hc hm hs).row
theorem blk_names {w : World} {g : Nat} {ss : List ByteArray} (h : w.heap[g]? = some (.cells (ss.map Value.string).toArray 9 (0, 0))) (hm : ss.length ≤ maxLen) : HNames (fun i => g = i) w (.slice (some ⟨g, 0, none⟩) ss.length ss.length) ss := by
  refine ⟨fun i => [.string (ss[i]!)], ⟨_, _, rfl, Nat.le_refl _, hm, fun _ => ⟨g, 0, rfl, rfl, lt_of h, fun i hi => ⟨rfl, fun j hj => ?_⟩⟩⟩, fun i hi => by simp [hi]⟩
  have hj0 : j = 0 := by omega
  subst hj0
  rw [cell_of h]
  simp [hi]
theorem blk_ints {w : World} {g : Nat} {L : List Int} {t : TypeId} (h : w.heap[g]? = some (.cells (L.map (Value.int .i64)).toArray t (0, 0))) (hm : L.length ≤ maxLen) : HInts (fun i => g = i) w (.slice (some ⟨g, 0, none⟩) L.length L.length) L := by
  refine ⟨fun i => [.int .i64 (L[i]!)], ⟨_, _, rfl, Nat.le_refl _, hm, fun _ => ⟨g, 0, rfl, rfl, lt_of h, fun i hi => ⟨rfl, fun j hj => ?_⟩⟩⟩, fun i hi => by simp [hi]⟩
  have hj0 : j = 0 := by omega
  subst hj0
  rw [cell_of h]
  simp [hi]

def bgN : List Tm := [(2, ⟨#[110]⟩), (3, ⟨#[]⟩), (-1, ⟨#[110]⟩)]
def bgV : List Tm := [(2, ⟨#[110]⟩), (-1, ⟨#[]⟩)]
theorem bgN_nf : NF (bgN.map te) [(3, []), (1, [110])] := by
  refine ⟨by unfold Rises; decide, fun n s => ?_⟩
  have e : sumOf (bgN.map te) s = (if [110] = s then 2 else 0) + ((if [] = s then 3 else 0) + ((if [110] = s then -1 else 0) + 0)) := rfl
  rw [e]
  by_cases h1 : s = [110]
  · subst h1; simp
    intro h; omega
  · by_cases h2 : s = []
    · subst h2; simp
      intro h; omega
    · have h3 : ¬ [110] = s := fun e => h1 e.symm
      have h4 : ¬ [] = s := fun e => h2 e.symm
      simp [h1, h2, h3, h4]
theorem bgV_nf : NF (bgV.map te) [(-1, []), (2, [110])] := by
  refine ⟨by unfold Rises; decide, fun n s => ?_⟩
  have e : sumOf (bgV.map te) s = (if [110] = s then 2 else 0) + ((if [] = s then -1 else 0) + 0) := rfl
  rw [e]
  by_cases h1 : s = [110]
  · subst h1; simp
    intro h; omega
  · by_cases h2 : s = []
    · subst h2; simp
      intro h; omega
    · have h3 : ¬ [110] = s := fun e => h1 e.symm
      have h4 : ¬ [] = s := fun e => h2 e.symm
      simp [h1, h2, h3, h4]
theorem bgV_run : vrun [⟨#[110]⟩] [4] [(-1, []), (2, [110])] 0 = (7, 0) := by decide

set_option maxHeartbeats 8000000 in
theorem begun_any (w : World) : Calls Try.prog 6 #[] w fun e w' => e = .returned (.bool true) ∧ Below w.heap.size w w' := by
  obtain ⟨w1, hw1⟩ : ∃ w1, w1 = w.alloc (.cells #[.int .i64 2, .string ⟨#[110]⟩, .int .i64 3, .string ⟨#[]⟩, .int .i64 (-1), .string ⟨#[110]⟩] 39 (0, 0)) := ⟨_, rfl⟩
  have b1 : Below w.heap.size w w1 := by rw [hw1]; exact (Below.refl _ _).alloc (Nat.le_refl _) _
  have K1 : Blk w1 w.heap.size bgN [] := by unfold Blk; rw [hw1, heap_new]; rfl
  have hn := norm_any (blk_terms (c := 3) K1 (by decide) (by decide) (by decide))
  have en : bgN.length = 3 := rfl
  rw [en] at hn
  clear K1
  go_enter Try.func6, Try.ntmps6
  go_wp2_with fail
  rw [← hw1]
  clear hw1
  refine hn.mono ?_
  rintro e w2 ⟨u, c, a, rfl, hnp, b2⟩
  clear hn
  rcases normP_cases hnp with ⟨hc0, hfp⟩ | ⟨rfl, rfl, hl1000, hsm, r, own2, hnf⟩
  · exact absurd ⟨by decide, by decide⟩ (faultP_not hfp hc0)
  · clear hnp
    have B2 := b1.trans (b2.mono b1.size)
    go_upto_region 2 with fail
    obtain ⟨w3, hw3⟩ : ∃ w3, w3 = w2.alloc (.cells #[.int .i64 0, .int .i64 0] 30 (0, 0)) := ⟨_, rfl⟩
    have b3 : Below w2.heap.size w2 w3 := by rw [hw3]; exact (Below.refl _ _).alloc (Nat.le_refl _) _
    have K3 : w3.heap[w2.heap.size]? = some (.cells #[.int .i64 0, .int .i64 0] 30 (0, 0)) := by rw [hw3]; exact heap_new _ _
    rw [← hw3]
    clear hw3
    obtain ⟨w4, hw4⟩ : ∃ w4, w4 = w3.alloc (.cells #[.int .i64 2, .string ⟨#[110]⟩, .int .i64 (-1), .string ⟨#[]⟩] 39 (0, 0)) := ⟨_, rfl⟩
    have b4 : Below w3.heap.size w3 w4 := by rw [hw4]; exact (Below.refl _ _).alloc (Nat.le_refl _) _
    have K4 : Blk w4 w3.heap.size bgV [] := by unfold Blk; rw [hw4, heap_new]; rfl
    have s4 : w4.heap.size = w3.heap.size + 1 := by rw [hw4]; simp
    obtain ⟨w5, hw5⟩ : ∃ w5, w5 = w4.alloc (.cells #[.string ⟨#[110]⟩] 9 (0, 0)) := ⟨_, rfl⟩
    have b5 : Below w4.heap.size w4 w5 := by rw [hw5]; exact (Below.refl _ _).alloc (Nat.le_refl _) _
    have K5 : w5.heap[w4.heap.size]? = some (.cells (([⟨#[110]⟩] : List ByteArray).map Value.string).toArray 9 (0, 0)) := by rw [hw5, heap_new]; rfl
    have s5 : w5.heap.size = w4.heap.size + 1 := by rw [hw5]; simp
    obtain ⟨w6, hw6⟩ : ∃ w6, w6 = w5.alloc (.cells #[.int .i64 4] 3 (0, 0)) := ⟨_, rfl⟩
    have b6 : Below w5.heap.size w5 w6 := by rw [hw6]; exact (Below.refl _ _).alloc (Nat.le_refl _) _
    have K6 : w6.heap[w5.heap.size]? = some (.cells (([4] : List Int).map (Value.int .i64)).toArray 3 (0, 0)) := by rw [hw6, heap_new]; rfl
    have b46 : Below w4.heap.size w4 w6 := b5.trans (b6.mono b5.size)
    have hval := value_any (blk_terms (c := 2) (K4.below b46 (by rw [s4]; omega)) (by decide) (by decide) (by decide)) (blk_names ((b6.block _ (lt_of K5)).trans K5) (by decide)) (blk_ints K6 (by decide)) (by decide) (by decide) (by decide)
    have b36 : Below w3.heap.size w3 w6 := b4.trans (b46.mono b4.size)
    have B6 := (B2.trans (b3.mono B2.size)).trans (b36.mono (Nat.le_trans B2.size b3.size))
    have own6 := (own2.below b3).below b36
    have K36 := (b36.block _ (lt_of K3)).trans K3
    have e1 : bgV.length = 2 := rfl
    rw [e1] at hval
    simp only [List.length_cons, List.length_nil, Nat.zero_add] at hval
    clear K4 K5 K6 b46 b5 b6 b4 b3 b36 own2
    rw [s5, s4] at hval
    go_wp2_with fail
    rw [← hw4, ← hw5, ← hw6]
    clear hw4 hw5 hw6
    refine hval.mono ?_
    rintro e w7 ⟨x, c, a, rfl, hvp, b7⟩
    clear hval
    obtain ⟨rfl, rfl, rfl⟩ : x = 7 ∧ c = 0 ∧ a = 0 := by
      rcases hvp with ⟨hfp, hc0, _⟩ | ⟨_, _, r2, hnf2, h1, h2, h3⟩
      · exact absurd ⟨by decide, by decide⟩ (faultP_not hfp hc0)
      · rw [hnf2.uniq bgV_nf, bgV_run] at h1 h2 h3
        exact ⟨h1, h2, h3⟩
    clear hvp
    have own7 := own6.below b7
    have K7 := (b7.block _ (lt_of K36)).trans K36
    have B7 := B6.trans (b7.mono B6.size)
    go_upto_region 3 with fail
    obtain ⟨w8, hw8⟩ : ∃ w8, w8 = w7.alloc (.cells #[.int .i64 0, .int .i64 0] 30 (0, 0)) := ⟨_, rfl⟩
    have b8 : Below w7.heap.size w7 w8 := by rw [hw8]; exact (Below.refl _ _).alloc (Nat.le_refl _) _
    have K8 : w8.heap[w7.heap.size]? = some (.cells #[.int .i64 0, .int .i64 0] 30 (0, 0)) := by rw [hw8]; exact heap_new _ _
    rw [← hw8]
    clear hw8
    have K78 := (b8.block _ (lt_of K7)).trans K7
    obtain ⟨w9, hw9⟩ : ∃ w9, w9 = w8.alloc (.cells #[.int .i64 3, .string ⟨#[]⟩, .int .i64 1, .string ⟨#[110]⟩] 39 (0, 0)) := ⟨_, rfl⟩
    have b9 : Below w8.heap.size w8 w9 := by rw [hw9]; exact (Below.refl _ _).alloc (Nat.le_refl _) _
    have K9 : Blk w9 w8.heap.size [(3, ⟨#[]⟩), (1, ⟨#[110]⟩)] [] := by unfold Blk; rw [hw9, heap_new]; rfl
    have own9 := (own7.below b8).below b9
    have hsame := sameTerms_any (terms_row own9.row) (blk_terms (c := 2) K9 (by decide) (by decide) (by decide))
    have heq : eqL teq r [(3, ⟨#[]⟩), (1, ⟨#[110]⟩)] = true := eqL_te.2 (hnf.uniq bgN_nf)
    rw [heq] at hsame
    simp only [List.length_cons, List.length_nil, Nat.zero_add] at hsame
    have d0 := cell_of K8 0
    have k0 := cell_of K78 0
    simp at d0 k0
    have B9 := (B7.trans (b8.mono B7.size)).trans (b9.mono (Nat.le_trans B7.size b8.size))
    clear own9 own7 own6 K9 b9 b8 b7 hnf heq
    go_wp2_with fail
    rw [← hw9]
    clear hw9
    refine hsame.mono ?_
    rintro e w10 ⟨rfl, b10⟩
    go_wp2
    go_ret
    exact ⟨rfl, B9.trans (b10.mono B9.size)⟩
end Go.Proofs.Ytjpjedigajiomaa
