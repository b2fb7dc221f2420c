/-
  DERIVED. THE WALKS of valueOf and of size.Value.
-/
import Derived.Test.YtjpjedigajiomaaSzP
namespace Go.Proofs.Ytjpjedigajiomaa
open Go.Shelf Go.RowKit Go.Lib Go.IntWalk Go.Maps
set_option linter.unusedVariables false
set_option linter.unusedSimpArgs false
set_option maxRecDepth 100000

/-- v is a row of numbers -/
def HInts (ok : Nat → Prop) (w : World) (v : Value) (L : List Int) : Prop := ∃ C, Sl ok 1 w v L.length C ∧ ∀ i (h : i < L.length), C i = [.int .i64 L[i]]
theorem HInts.at {ok : Nat → Prop} {w : World} {v : Value} {l : List Int} (h : HInts ok w v l) :
    ∃ ao cap, v = .slice ao l.length cap ∧ l.length ≤ cap ∧ cap ≤ maxLen ∧ ∀ i (h : i < l.length), ∃ b o, ao = some ⟨b, o, none⟩ ∧ b < w.heap.size ∧ w.cell? ⟨b, o + i, none⟩ = some (.int .i64 l[i]) := by
  obtain ⟨C, ⟨ao, cap, hv, h1, h2, h3⟩, hC⟩ := h
  refine ⟨ao, cap, hv, h1, h2, fun i hi => ?_⟩
  obtain ⟨b, o, ha, hob, hb, hc⟩ := h3 (by omega)
  have := (hc i hi).2 0 (by decide)
  rw [hC i hi] at this
  exact ⟨b, o, ha, hb, by simpa using this⟩
theorem HInts.keep {ok : Nat → Prop} {w w' : World} {v : Value} {l : List Int} (h : HInts ok w v l) (h1 : w.heap.size ≤ w'.heap.size) (h2 : ∀ i, ok i → i < w.heap.size → w'.heap[i]? = w.heap[i]?) : HInts ok w' v l := by
  obtain ⟨C, h3, h4⟩ := h
  exact ⟨C, h3.keep h1 h2, h4⟩

/-- what a term comes to: its number, or a code -/
def tvT (names : List ByteArray) (L : List Int) (t : Te) : Int × Int :=
  if t.2 = [] then (t.1, 0) else match plc names L.length t.2 with
    | none => (0, 9)
    | some q => if small (L.getD q 0) = true then (t.1 * L.getD q 0, 0) else (0, 16)
/-- what terms come to -/
def vrun (names : List ByteArray) (L : List Int) : List Te → Int → Int × Int
  | [], acc => (acc, 0)
  | t :: l, acc => if (tvT names L t).2 = 0 then vrun names L l (acc + (tvT names L t).1) else (0, (tvT names L t).2)
theorem plc_lt {names : List ByteArray} {k q : Nat} {s : List UInt8} (h : plc names k s = some q) : q < k ∧ q < names.length := by
  unfold plc at h
  split at h
  · cases h
  · have h2 := (List.findIdx?_eq_some_iff_findIdx_eq.1 h).1
    rw [List.length_take] at h2
    omega
theorem tvT_bound {names : List ByteArray} {L : List Int} {t : Te} (h : -1000000000 ≤ t.1 ∧ t.1 ≤ 1000000000) : -1000000000000000 ≤ (tvT names L t).1 ∧ (tvT names L t).1 ≤ 1000000000000000 := by
  unfold tvT
  split
  · simp; omega
  · cases plc names L.length t.2 with
    | none => simp
    | some q =>
      simp only
      split
      · rename_i hs
        have h2 := small_iff.1 hs
        generalize L.getD q 0 = y at h2
        simp only
        have a1 : -(1000000000 * 1000000 : Int) ≤ t.1 * y ∧ t.1 * y ≤ 1000000000 * 1000000 := by
          constructor
          · have := Int.mul_le_mul_of_nonneg_left (a := 0) (b := 0) (c := 0) (by omega) (by omega)
            rcases Int.le_total 0 t.1 with p | p <;> rcases Int.le_total 0 y with q | q
            · have := Int.mul_nonneg p q; omega
            · have h3 : t.1 * (-y) ≤ 1000000000 * 1000000 := Int.mul_le_mul h.2 (by omega) (by omega) (by omega)
              rw [Int.mul_neg] at h3; omega
            · have h3 : (-t.1) * y ≤ 1000000000 * 1000000 := Int.mul_le_mul (by omega) (by omega) q (by omega)
              rw [Int.neg_mul] at h3; omega
            · have h3 := Int.mul_nonneg (show (0 : Int) ≤ -t.1 by omega) (show (0 : Int) ≤ -y by omega)
              rw [Int.neg_mul_neg] at h3; omega
          · rcases Int.le_total 0 t.1 with p | p <;> rcases Int.le_total 0 y with q | q
            · exact Int.mul_le_mul h.2 h2.2 q (by omega)
            · have h3 := Int.mul_nonneg p (show (0 : Int) ≤ -y by omega)
              rw [Int.mul_neg] at h3; omega
            · have h3 := Int.mul_nonneg (show (0 : Int) ≤ -t.1 by omega) q
              rw [Int.neg_mul] at h3; omega
            · have h3 : (-t.1) * (-y) ≤ 1000000000 * 1000000 := Int.mul_le_mul (by omega) (by omega) (by omega) (by omega)
              rw [Int.neg_mul_neg] at h3; exact h3
        omega
      · simp

/-- l, folded and sorted: the normal form is made so -/
theorem mstep_len (acc : List Te) (t : Te) : (mstep acc t).length ≤ acc.length + 1 := by
  rcases List.eq_nil_or_concat acc with rfl | ⟨a, u, rfl⟩
  · simp [mstep]
  · rw [List.concat_eq_append]
    by_cases e : u.2 = t.2
    · rw [mstep_more e]; simp
    · rw [mstep_new e]; simp
theorem fold_len : ∀ (l acc : List Te), (l.foldl mstep acc).length ≤ acc.length + l.length
  | [], acc => by simp
  | t :: l, acc => by
    have h1 := fold_len l (mstep acc t)
    have h2 := mstep_len acc t
    rw [List.foldl_cons, List.length_cons]
    omega
theorem nf_len {l r : List Te} (h : NF l r) : r.length ≤ l.length := by
  let le : Te → Te → Bool := fun x y => decide (Lib.compareBytes x.2 y.2 ≤ 0)
  have ht : ∀ a b c : Te, le a b = true → le b c = true → le a c = true := fun a b c h1 h2 => by
    simp only [le, decide_eq_true_eq] at h1 h2 ⊢
    rcases cmp_range b.2 c.2 with q | q | q
    · have := le_lt h1 (by omega : Lib.compareBytes b.2 c.2 < 0); omega
    · rw [← cmp_zero _ _ q]; omega
    · omega
  have htot : ∀ a b : Te, (le a b || le b a) = true := fun a b => by
    simp only [le, Bool.or_eq_true, decide_eq_true_eq]
    have := cmp_flip a.2 b.2
    omega
  have hp := List.mergeSort_perm l le
  have hs := List.pairwise_mergeSort ht htot l
  have hs2 : (l.mergeSort le).Pairwise fun x y => Lib.compareBytes x.2 y.2 ≤ 0 := hs.imp fun {a b} h => by simpa [le] using h
  obtain ⟨m1, _⟩ := fold_mg (fun _ => 0) (l.mergeSort le) [] [] mg_nil (fun u hu => by simp at hu) hs2
  rw [List.nil_append] at m1
  have e := (h.perm hp.symm).uniq (mg_nf m1)
  rw [e]
  have h1 := List.length_filter_le (fun t : Te => decide (t.1 ≠ 0)) ((l.mergeSort le).foldl mstep [])
  have h2 := fold_len (l.mergeSort le) []
  have h3 := hp.length_eq
  simp only [List.length_nil] at h2
  omega
theorem nf_name {l r : List Te} (h : NF l r) {n : Int} {s : List UInt8} (hm : (n, s) ∈ r) : ∃ t ∈ l, t.2 = s := by
  obtain ⟨e, h0⟩ := (h.mem n s).1 hm
  refine Classical.byContradiction fun hn => h0 ?_
  rw [e]
  exact sumOf_none fun t ht e2 => hn ⟨t, ht, e2⟩
theorem nf_bound {l : List Tm} {r : List Te} (h : NF (l.map te) r) (hl : l.length ≤ 1000) (hs : ∀ t ∈ l, small t.1 = true) : ∀ t ∈ r, -1000000000 ≤ t.1 ∧ t.1 ≤ 1000000000 := by
  intro t ht
  obtain ⟨e, _⟩ := (h.mem t.1 t.2).1 ht
  rw [e]
  have h1 := sumOf_bound (l := l.map te) (s := t.2) (m := 1000000) (by omega) (fun u hu => by
    obtain ⟨x, hx, rfl⟩ := List.mem_map.1 hu
    exact small_iff.1 (hs x hx))
  have h2 : (l.map te).length ≤ 1000 := by simp; omega
  constructor <;> omega
theorem size_data (x : ByteArray) : x.size = x.data.toList.length := Lib.size_eq x


set_option maxHeartbeats 4000000 in
theorem valueOf_any {ok ok' : Nat → Prop} {w : World} {t : Tm} {vl f : Value} {names : List ByteArray} {L : List Int} (hl : HInts ok w vl L) (hf : FnP ok' w f names L.length) (hs : t.2.size ≤ maxLen) (hb : -1000000000 ≤ t.1 ∧ t.1 ≤ 1000000000) :
    Calls Try.prog 26 #[.agg #[.int .i64 t.1, .string t.2], vl, f] w fun e w' => e = .returned (.tuple #[.int .i64 (tvT names L (te t)).1, .int .i64 (tvT names L (te t)).2]) ∧ Below w.heap.size w w' := by
  obtain ⟨ao, cap, rfl, hc1, hc2, hat⟩ := hl.at
  obtain ⟨x, y⟩ := t
  simp only at *
  obtain ⟨w1, hw1⟩ : ∃ w1, w1 = w.alloc (.cells #[.int .i64 x, .string y] 39 (0, 0)) := ⟨_, rfl⟩
  have b1 : Below w.heap.size w w1 := by rw [hw1]; exact (Below.refl _ _).alloc (Nat.le_refl _) _
  have K1 : w1.heap[w.heap.size]? = some (.cells #[.int .i64 x, .string y] 39 (0, 0)) := by rw [hw1]; exact heap_new _ _
  have hf1 := hf.below b1
  have d0 := cell_of K1 0
  have d1 := cell_of K1 1
  simp at d0 d1
  obtain ⟨B, M, n, D, rfl, _, _, hB, hown, hD⟩ := hf1.out
  have hcall := place36 hB hown hD hs
  have HT : Hid (tvT names L (te (x, y)) = tvT names L (x, y.data.toList)) := rfl
  rw [HT.out]
  clear hf hf1 hB hown hD hl
  by_cases hem : y.data.toList = []
  · have hx : y = ⟨#[]⟩ := by
      have h1 : y.data = #[] := by
        have := congrArg List.toArray hem
        simpa using this
      exact ByteArray.ext h1
    subst hx
    have e : tvT names L (x, ([] : List UInt8)) = (x, 0) := by simp [tvT]
    have e2 : tvT names L (x, (⟨#[]⟩ : ByteArray).data.toList) = (x, 0) := e
    rw [e2]
    clear hcall e e2 HT
    go_enter Try.func26, Try.ntmps26
    go_upto_region 1 with fail
    rw [← hw1]
    clear hw1
    go_wp2
    go_ret2
    exact ⟨rfl, b1⟩
  · have hne1 : y.toList.isEmpty = false := by
      rw [Lib.toList_data]
      cases hc : y.data.toList with
      | nil => exact absurd hc hem
      | cons a b => rfl
    have hne2 : ¬ y.toList = [] := by rw [Lib.toList_data]; exact hem
    have hne3 : (y.toList == ([] : List UInt8)) = false := by simpa using hne2
    have e : tvT names L (x, y.data.toList) = match plc names L.length y.data.toList with
        | none => (0, 9)
        | some q => if small (L.getD q 0) = true then (x * L.getD q 0, 0) else (0, 16) := by
      unfold tvT
      rw [if_neg hem]
    have hbd := tvT_bound (names := names) (L := L) (t := (x, y.data.toList)) hb
    rw [e] at hbd
    rw [e]
    clear e HT
    cases hp : plc names L.length y.data.toList with
    | none =>
      rw [hp] at hcall
      clear hp hbd
      go_enter Try.func26, Try.ntmps26
      go_upto_region 1 with fail
      rw [← hw1]
      clear hw1
      go_wp2_with (go_at_call 36; refine hcall.mono ?_; rintro e w' ⟨rfl, rfl⟩)
      go_ret2
      exact ⟨rfl, b1⟩
    | some q =>
      rw [hp] at hcall hbd
      have hq := (plc_lt hp).1
      clear hp
      obtain ⟨b, o, rfl, hbb, t0⟩ := hat q hq
      have e0 := (b1.cell (p := ⟨b, o + q, none⟩) hbb).trans t0
      have hg : L.getD q 0 = L[q] := by simp [hq]
      simp only [hg] at hbd ⊢
      generalize L[q] = z at e0 hbd ⊢
      have hqI : (q : Int) < (L.length : Int) := by omega
      unfold maxLen at hc2
      clear t0 hat hg
      simp only [Option.getD_some, Option.isSome_some] at hcall
      cases hsm : small z with
      | true =>
        rw [hsm] at hbd
        simp only [if_true] at hbd ⊢
        have hwi := within_any z w1
        rw [hsm] at hwi
        go_enter Try.func26, Try.ntmps26
        go_upto_region 1 with fail
        rw [← hw1]
        clear hw1
        go_upto_region 7 with (go_at_call 36; refine hcall.mono ?_; rintro e w' ⟨rfl, rfl⟩)
        go_wp2_with fail
        refine hwi.mono ?_
        rintro e w2 ⟨rfl, b2⟩
        have K2 := (b2.block _ (lt_of K1)).trans K1
        clear d0 d1
        have d0 := cell_of K2 0
        simp at d0
        go_wp2
        go_ret2
        exact ⟨rfl, b1.trans (b2.mono b1.size)⟩
      | false =>
        simp only [Bool.false_eq_true, if_false]
        have hwi := within_any z w1
        rw [hsm] at hwi
        clear hbd
        go_enter Try.func26, Try.ntmps26
        go_upto_region 1 with fail
        rw [← hw1]
        clear hw1
        go_upto_region 7 with (go_at_call 36; refine hcall.mono ?_; rintro e w' ⟨rfl, rfl⟩)
        go_wp2_with fail
        refine hwi.mono ?_
        rintro e w2 ⟨rfl, b2⟩
        go_wp2
        go_ret2
        exact ⟨rfl, b1.trans (b2.mono b1.size)⟩

end Go.Proofs.Ytjpjedigajiomaa
