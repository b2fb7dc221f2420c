/-
  DERIVED. THE PLAIN MATHEMATICS of sizes of three names: the same just if they come to the same numbers.
-/
import Derived.Test.YtjpjedigajiomaaSzB
namespace Go.Proofs.Ytjpjedigajiomaa
open Go.Shelf Go.RowKit Go.Lib Go.IntWalk Go.Maps
set_option linter.unusedVariables false
set_option linter.unusedSimpArgs false
set_option maxRecDepth 100000

def names3 : List ByteArray := [⟨#[107]⟩, ⟨#[109]⟩, ⟨#[110]⟩]
/-- the names' numbers -/
def V3 (a b d : Int) (s : List UInt8) : Int := if s = [] then 1 else if s = [107] then a else if s = [109] then b else if s = [110] then d else 0
/-- a name as the laws have it -/
def N4 (s : List UInt8) : Prop := s = [] ∨ s = [107] ∨ s = [109] ∨ s = [110]
theorem STm.n4 {t : Tm} (h : STm t) : N4 t.2.data.toList := by
  rcases h.name with e | e | e | e <;> rw [e]
  · exact .inl rfl
  · exact .inr (.inl rfl)
  · exact .inr (.inr (.inl rfl))
  · exact .inr (.inr (.inr rfl))
theorem tvT3 {a b d : Int} (ha : small a = true) (hb : small b = true) (hd : small d = true) {t : Te} (h : N4 t.2) : tvT names3 [a, b, d] t = (t.1 * V3 a b d t.2, 0) := by
  obtain ⟨n, s⟩ := t
  simp only at h
  rcases h with rfl | rfl | rfl | rfl
  · simp [tvT, V3]
  · have e : plc names3 3 [107] = some 0 := by decide
    simp [tvT, V3, e, ha]
  · have e : plc names3 3 [109] = some 1 := by decide
    simp [tvT, V3, e, hb]
  · have e : plc names3 3 [110] = some 2 := by decide
    simp [tvT, V3, e, hd]
theorem vrun3 {a b d : Int} (ha : small a = true) (hb : small b = true) (hd : small d = true) : ∀ (r : List Te) (acc : Int), (∀ t ∈ r, N4 t.2) → vrun names3 [a, b, d] r acc = (acc + valOf (V3 a b d) r, 0)
  | [], acc, _ => by simp [vrun, valOf]
  | t :: r, acc, h => by
    unfold vrun
    rw [tvT3 ha hb hd (h t (by simp))]
    simp only [if_true]
    rw [vrun3 ha hb hd r _ (fun u hu => h u (by simp [hu]))]
    simp only [valOf]
    congr 1
    omega
theorem okN_of {l : List Tm} (h : ∀ t ∈ l, STm t) (hl : l.length ≤ 1000) : OkN l := ⟨hl, fun t ht => small_iff.2 (by have := (h t ht).n; omega)⟩
/-- Value of such a size -/
theorem val3 {l : List Tm} {a b d x c e : Int} (h : ∀ t ∈ l, STm t) (hl : l.length ≤ 1000) (ha : small a = true) (hb : small b = true) (hd : small d = true) (hv : ValP l names3 [a, b, d] x c e) : c = 0 ∧ x = valOf (V3 a b d) (l.map te) := by
  rcases hv with ⟨hf, hc, _⟩ | ⟨_, _, r, hnf, h1, h2, _⟩
  · exact absurd (okN_of h hl) (faultP_not hf hc)
  · have hr : ∀ t ∈ r, N4 t.2 := fun t ht => by
      obtain ⟨y, hy, e⟩ := nf_name hnf (n := t.1) (s := t.2) ht
      obtain ⟨z, hz, rfl⟩ := List.mem_map.1 hy
      rw [← e]
      exact (h z hz).n4
    rw [vrun3 ha hb hd r 0 hr] at h1 h2
    refine ⟨h2, ?_⟩
    rw [h1, ← hnf.val]
    simp
theorem val_coef {a b d : Int} : ∀ (l : List Te), (∀ t ∈ l, N4 t.2) → valOf (V3 a b d) l = sumOf l [] + sumOf l [107] * a + sumOf l [109] * b + sumOf l [110] * d
  | [], _ => by simp [valOf, sumOf]
  | t :: l, h => by
    have ih := val_coef (a := a) (b := b) (d := d) l (fun u hu => h u (by simp [hu]))
    obtain ⟨n, s⟩ := t
    have h4 := h (n, s) (by simp)
    simp only at h4
    unfold valOf sumOf
    rw [ih]
    rcases h4 with rfl | rfl | rfl | rfl
    · simp [V3]; omega
    · simp [V3, Int.add_mul]; omega
    · simp [V3, Int.add_mul]; omega
    · simp [V3, Int.add_mul]; omega
theorem nf_exists (l : List Te) : ∃ r, NF l r := by
  let le : Te → Te → Bool := fun x y => decide (Lib.compareBytes x.2 y.2 ≤ 0)
  have ht : ∀ a b c : Te, le a b = true → le b c = true → le a c = true := fun a b c h1 h2 => by
    simp only [le, decide_eq_true_eq] at h1 h2 ⊢
    rcases cmp_range b.2 c.2 with q | q | q
    · have := le_lt h1 (by omega : Lib.compareBytes b.2 c.2 < 0); omega
    · rw [← cmp_zero _ _ q]; omega
    · omega
  have htot : ∀ a b : Te, (le a b || le b a) = true := fun a b => by
    simp only [le, Bool.or_eq_true, decide_eq_true_eq]
    have := cmp_flip a.2 b.2
    omega
  have hp := List.mergeSort_perm l le
  have hs := List.pairwise_mergeSort ht htot l
  have hs2 : (l.mergeSort le).Pairwise fun x y => Lib.compareBytes x.2 y.2 ≤ 0 := hs.imp fun {a b} h => by simpa [le] using h
  obtain ⟨m1, _⟩ := fold_mg (fun _ => 0) (l.mergeSort le) [] [] mg_nil (fun u hu => by simp at hu) hs2
  rw [List.nil_append] at m1
  exact ⟨_, (mg_nf m1).perm hp⟩
/-- the number at the i-th choice -/
def X3 (i : Nat) (l : List Tm) : Int := valOf (V3 ((i % 4 : Nat) : Int) ((i / 4 % 4 : Nat) : Int) ((i / 16 : Nat) : Int)) (l.map te)
theorem n4_map {l : List Tm} (h : ∀ t ∈ l, STm t) : ∀ t ∈ l.map te, N4 t.2 := fun t ht => by
  obtain ⟨z, hz, rfl⟩ := List.mem_map.1 ht
  exact (h z hz).n4
theorem means {s t : List Tm} (hs : ∀ x ∈ s, STm x) (ht : ∀ x ∈ t, STm x) (ls : s.length ≤ 1000) (lt : t.length ≤ 1000) : SameN s t ↔ ∀ i, i < 64 → X3 i s = X3 i t := by
  constructor
  · rintro ⟨_, _, r, h1, h2⟩ i _
    exact h1.same_val h2 _
  · intro h
    obtain ⟨r, hr⟩ := nf_exists (s.map te)
    refine ⟨okN_of hs ls, okN_of ht lt, r, hr, ⟨hr.rise, fun n x => ?_⟩⟩
    rw [hr.mem]
    have e : sumOf (s.map te) x = sumOf (t.map te) x := by
      have e0 := h 0 (by omega)
      have e1 := h 1 (by omega)
      have e2 := h 4 (by omega)
      have e3 := h 16 (by omega)
      unfold X3 at e0 e1 e2 e3
      rw [val_coef _ (n4_map hs), val_coef _ (n4_map ht)] at e0 e1 e2 e3
      simp at e0 e1 e2 e3
      by_cases h4 : N4 x
      · rcases h4 with rfl | rfl | rfl | rfl
        · exact e0
        · omega
        · omega
        · omega
      · rw [sumOf_none (s := x) (fun y hy e => h4 (by rw [← e]; exact n4_map hs y hy)), sumOf_none (s := x) (fun y hy e => h4 (by rw [← e]; exact n4_map ht y hy))]
    rw [e]
theorem X3_perm {s t : List Tm} (h : s.Perm t) (i : Nat) : X3 i s = X3 i t := valOf_perm _ (h.map te)
theorem same_perm {s t : List Tm} (hs : ∀ x ∈ s, STm x) (ls : s.length ≤ 1000) (h : s.Perm t) : SameN s t := by
  obtain ⟨r, hr⟩ := nf_exists (s.map te)
  exact ⟨okN_of hs ls, okN_of (fun x hx => hs x (h.mem_iff.2 hx)) (by rw [← h.length_eq]; exact ls), r, hr, hr.perm (h.map te)⟩
end Go.Proofs.Ytjpjedigajiomaa
