/-
  DERIVED. Numbers put into a row one after another, each where it belongs, are the numbers sorted, each once.
-/
import Derived.Test.YtfhjejmadhcmnaaDoorSy12
namespace Go.Proofs.YtfhjejmadhcmnaaDoor
open Go.Shelf Go.RowKit Go.Lib Go.IntWalk
set_option linter.unusedVariables false
set_option linter.unusedSimpArgs false

def SS (l : List Int) : Prop := l.Pairwise (fun x y => x < y)
theorem ss_eq : ∀ (a b : List Int), SS a → SS b → (∀ y, y ∈ a ↔ y ∈ b) → a = b
  | [], [], _, _, _ => rfl
  | [], y :: t, _, _, h => by have := (h y).2 (by simp); simp at this
  | x :: s, [], _, _, h => by have := (h x).1 (by simp); simp at this
  | x :: s, y :: t, ha, hb, h => by
    have ha' := List.pairwise_cons.1 ha
    have hb' := List.pairwise_cons.1 hb
    have e : x = y := by
      have h1 := (h x).1 (by simp)
      have h2 := (h y).2 (by simp)
      rcases List.mem_cons.1 h1 with h1 | h1
      · exact h1
      rcases List.mem_cons.1 h2 with h2 | h2
      · exact h2.symm
      have := hb'.1 x h1
      have := ha'.1 y h2
      omega
    subst e
    have := ss_eq s t ha'.2 hb'.2 (fun z => by
      constructor
      · intro hz
        rcases List.mem_cons.1 ((h z).1 (List.mem_cons_of_mem _ hz)) with q | q
        · have := ha'.1 z hz; omega
        · exact q
      · intro hz
        rcases List.mem_cons.1 ((h z).2 (List.mem_cons_of_mem _ hz)) with q | q
        · have := hb'.1 z hz; omega
        · exact q)
    rw [this]
theorem mem_ins (n y : Int) : ∀ (l : List Int), y ∈ ins n l ↔ y = n ∨ y ∈ l
  | [] => by simp [ins]
  | x :: t => by
    have ih := mem_ins n y t
    rw [ins]
    by_cases h1 : n ≤ x
    · rw [if_pos h1]
      by_cases h2 : n < x
      · rw [if_pos h2]; simp
      · rw [if_neg h2]
        have : x = n := by omega
        subst this
        simp
    · rw [if_neg h1]
      simp only [List.mem_cons, ih]
      constructor
      · rintro (h | h | h)
        · exact .inr (.inl h)
        · exact .inl h
        · exact .inr (.inr h)
      · rintro (h | h | h)
        · exact .inr (.inl h)
        · exact .inl h
        · exact .inr (.inr h)
theorem ins_ss (n : Int) : ∀ (l : List Int), SS l → SS (ins n l)
  | [], _ => by simp [ins, SS]
  | x :: t, h => by
    have h' := List.pairwise_cons.1 h
    rw [ins]
    by_cases h1 : n ≤ x
    · rw [if_pos h1]
      by_cases h2 : n < x
      · rw [if_pos h2]
        refine List.pairwise_cons.2 ⟨fun y hy => ?_, h⟩
        rcases List.mem_cons.1 hy with e | hy
        · omega
        · have := h'.1 y hy; omega
      · rw [if_neg h2]; exact h
    · rw [if_neg h1]
      refine List.pairwise_cons.2 ⟨fun y hy => ?_, ins_ss n t h'.2⟩
      rcases (mem_ins n y t).1 hy with e | hy
      · omega
      · exact h'.1 y hy
theorem foldl_ss : ∀ (L o : List Int), SS o → SS (L.foldl (fun o x => ins x o) o) ∧ ∀ y, y ∈ L.foldl (fun o x => ins x o) o ↔ y ∈ o ∨ y ∈ L
  | [], o, h => ⟨h, fun y => by simp⟩
  | x :: t, o, h => by
    obtain ⟨h1, h2⟩ := foldl_ss t (ins x o) (ins_ss x o h)
    refine ⟨h1, fun y => ?_⟩
    rw [List.foldl_cons, h2 y, mem_ins, List.mem_cons]
    constructor
    · rintro ((h | h) | h)
      · exact .inr (.inl h)
      · exact .inl h
      · exact .inr (.inr h)
    · rintro (h | h | h)
      · exact .inl (.inr h)
      · exact .inl (.inl h)
      · exact .inr h
theorem compact_ss {l : List Int} (hs : l.Pairwise (fun x y => x ≤ y)) : ∀ m, m ≤ l.length → SS (Lib.compactUpTo l.toArray m) ∧ ∀ y, y ∈ Lib.compactUpTo l.toArray m ↔ ∃ j, j < m ∧ l.toArray[j]! = y
  | 0, _ => ⟨by simp [Lib.compactUpTo, SS], fun y => by simp [Lib.compactUpTo]⟩
  | m + 1, hm => by
    obtain ⟨h1, h2⟩ := compact_ss hs m (by omega)
    have hle : ∀ i j, i ≤ j → j < l.length → l.toArray[i]! ≤ l.toArray[j]! := fun i j hij hj => by
      rcases Nat.lt_or_eq_of_le hij with h | h
      · have := (List.pairwise_iff_getElem.1 hs) i j (by omega) hj h
        simpa [hj, show i < l.length by omega] using this
      · subst h; exact Int.le_refl _
    rw [Lib.compactUpTo_succ]
    by_cases hk : Lib.keeps l.toArray m = true
    · rw [if_pos hk]
      refine ⟨?_, fun y => ?_⟩
      · refine List.pairwise_append.2 ⟨h1, by simp, fun a ha b hb => ?_⟩
        obtain rfl : b = l.toArray[m]! := by simpa using hb
        obtain ⟨j, hj, rfl⟩ := (h2 a).1 ha
        have hk' : m = 0 ∨ l.toArray[m]! ≠ l.toArray[m - 1]! := by simpa [Lib.keeps] using hk
        rcases hk' with h | h
        · omega
        · have := hle j (m - 1) (by omega) (by omega)
          have := hle (m - 1) m (by omega) (by omega)
          omega
      · rw [List.mem_append, h2 y, List.mem_singleton]
        constructor
        · rintro (⟨j, hj, e⟩ | e)
          · exact ⟨j, by omega, e⟩
          · exact ⟨m, by omega, e.symm⟩
        · rintro ⟨j, hj, e⟩
          rcases Nat.lt_or_eq_of_le (Nat.le_of_lt_succ hj) with h | h
          · exact .inl ⟨j, h, e⟩
          · subst h; exact .inr e.symm
    · rw [if_neg hk, List.append_nil]
      refine ⟨h1, fun y => ?_⟩
      have hk' : m ≠ 0 ∧ l.toArray[m]! = l.toArray[m - 1]! := by
        have : ¬ (m = 0 ∨ l.toArray[m]! ≠ l.toArray[m - 1]!) := by
          intro h
          exact hk (by unfold Lib.keeps; exact decide_eq_true h)
        constructor
        · intro h; exact this (.inl h)
        · exact Decidable.byContradiction fun h => this (.inr h)
      rw [h2 y]
      constructor
      · rintro ⟨j, hj, e⟩; exact ⟨j, by omega, e⟩
      · rintro ⟨j, hj, e⟩
        rcases Nat.lt_or_eq_of_le (Nat.le_of_lt_succ hj) with h | h
        · exact ⟨j, h, e⟩
        · subst h; exact ⟨j - 1, by omega, by rw [← hk'.2]; exact e⟩
theorem sort_le (L : List Int) : (L.mergeSort leB).Pairwise (fun x y => x ≤ y) := by
  have h := List.pairwise_mergeSort (le := leB) (by intro a b c; simp [leB]; omega) (by intro a b; simp [leB]; omega) L
  exact h.imp (fun h => by simpa [leB] using h)
theorem arr_at (l : List Int) (j : Nat) (h : j < l.length) : l.toArray[j]! = l[j] := by simp [h]
theorem foldI_eq (L : List Int) : foldI L = Lib.compact (L.mergeSort leB) := by
  obtain ⟨h1, h2⟩ := foldl_ss L [] (by simp [SS])
  obtain ⟨h3, h4⟩ := compact_ss (sort_le L) (L.mergeSort leB).length (Nat.le_refl _)
  refine ss_eq _ _ h1 h3 (fun y => ?_)
  unfold foldI Lib.compact
  rw [h2 y]
  rw [h4 y]
  constructor
  · rintro (h | h)
    · cases h
    · have hm : y ∈ L.mergeSort leB := List.mem_mergeSort.2 h
      obtain ⟨j, hj, e⟩ := List.getElem_of_mem hm
      exact ⟨j, hj, by rw [arr_at _ j hj]; exact e⟩
  · rintro ⟨j, hj, e⟩
    have hm : y ∈ L.mergeSort leB := by rw [← e, arr_at _ j hj]; exact List.getElem_mem hj
    exact .inr (List.mem_mergeSort.1 hm)
theorem refUses_is (A : List Int) (E : List Pu) : foldI (usesL A E) = usesT A E := foldI_eq _
end Go.Proofs.YtfhjejmadhcmnaaDoor
