/-
  DERIVED. THE PLAIN MATHEMATICS of sizes (chapter 4): the normal form of a sum of terms, and that there is one alone. No program is named here.
-/
import Derived.Lib.Bytealg
namespace Go.Proofs.Ytjpjedigajiomaa
open Go.Lib
set_option linter.unusedVariables false
set_option linter.unusedSimpArgs false

/-- a term: so many times a name -/
abbrev Te := Int × List UInt8

theorem cmp_self : ∀ a : List UInt8, compareBytes a a = 0
  | [] => by simp [compareBytes]
  | x :: a => by
    unfold compareBytes
    rw [if_neg (by simp), if_neg (by simp)]
    exact cmp_self a
theorem cmp_zero : ∀ a b : List UInt8, compareBytes a b = 0 → a = b
  | [], [], _ => rfl
  | [], _ :: _, h => by simp [compareBytes] at h
  | _ :: _, [], h => by simp [compareBytes] at h
  | x :: a, y :: b, h => by
    unfold compareBytes at h
    split at h
    · omega
    · split at h
      · omega
      · rename_i h1 h2
        have e : x = y := UInt8.le_antisymm (UInt8.not_lt.1 h2) (UInt8.not_lt.1 h1)
        rw [e, cmp_zero a b h]
theorem cmp_flip : ∀ a b : List UInt8, compareBytes b a = - compareBytes a b
  | [], [] => by simp [compareBytes]
  | [], _ :: _ => by simp [compareBytes]
  | _ :: _, [] => by simp [compareBytes]
  | x :: a, y :: b => by
    unfold compareBytes
    by_cases h1 : x < y
    · have h2 : ¬ y < x := fun h => absurd (UInt8.lt_trans h1 h) (UInt8.lt_irrefl _)
      simp [h1, h2]
    · by_cases h2 : y < x
      · simp [h1, h2]
      · simp only [h1, h2, if_false]
        exact cmp_flip a b
theorem cmp_range : ∀ a b : List UInt8, compareBytes a b = -1 ∨ compareBytes a b = 0 ∨ compareBytes a b = 1
  | [], [] => by simp [compareBytes]
  | [], _ :: _ => by simp [compareBytes]
  | _ :: _, [] => by simp [compareBytes]
  | x :: a, y :: b => by
    unfold compareBytes
    split
    · exact .inl rfl
    · split
      · exact .inr (.inr rfl)
      · exact cmp_range a b
theorem cmp_trans : ∀ a b c : List UInt8, compareBytes a b < 0 → compareBytes b c < 0 → compareBytes a c < 0
  | [], [], c, h, _ => by simp [compareBytes] at h
  | [], _ :: _, [], _, h => by simp [compareBytes] at h
  | [], _ :: _, _ :: _, _, _ => by simp [compareBytes]
  | _ :: _, [], _, h, _ => by simp [compareBytes] at h
  | _ :: _, _ :: _, [], _, h => by simp [compareBytes] at h
  | x :: a, y :: b, z :: c, h1, h2 => by
    unfold compareBytes at h1 h2 ⊢
    by_cases p : x < y
    · by_cases q : y < z
      · rw [if_pos (UInt8.lt_trans p q)]; omega
      · by_cases q2 : z < y
        · rw [if_neg q, if_pos q2] at h2; omega
        · have e : y = z := UInt8.le_antisymm (UInt8.not_lt.1 q2) (UInt8.not_lt.1 q)
          subst e
          rw [if_pos p]; omega
    · by_cases p2 : y < x
      · rw [if_neg p, if_pos p2] at h1; omega
      · have e : x = y := UInt8.le_antisymm (UInt8.not_lt.1 p2) (UInt8.not_lt.1 p)
        subst e
        rw [if_neg p, if_neg p2] at h1
        by_cases q : x < z
        · rw [if_pos q]; omega
        · by_cases q2 : z < x
          · rw [if_neg q, if_pos q2] at h2; omega
          · rw [if_neg q, if_neg q2] at h2 ⊢
            exact cmp_trans a b c h1 h2

theorem less_cmp : ∀ a b : List UInt8, Op.bytesLess a b = decide (compareBytes a b < 0)
  | [], [] => by simp [Op.bytesLess, compareBytes]
  | [], _ :: _ => by simp [Op.bytesLess, compareBytes]
  | _ :: _, [] => by simp [Op.bytesLess, compareBytes]
  | x :: a, y :: b => by
    unfold Op.bytesLess compareBytes
    by_cases h1 : x < y
    · simp [h1]
    · by_cases h2 : y < x
      · have hne : ¬ x = y := fun e => by subst e; exact UInt8.lt_irrefl _ h2
        simp [h1, h2, hne]
      · have e : x = y := UInt8.le_antisymm (UInt8.not_lt.1 h2) (UInt8.not_lt.1 h1)
        subst e
        simp [h1, less_cmp a b]

/-- names that rise -/
def Rises (r : List Te) : Prop := r.Pairwise fun x y => compareBytes x.2 y.2 < 0
theorem rises_eq : ∀ {r q : List Te}, Rises r → Rises q → (∀ x, x ∈ r ↔ x ∈ q) → r = q
  | [], [], _, _, _ => rfl
  | [], y :: q, _, _, h => by have := (h y).2 (by simp); simp at this
  | x :: r, [], _, _, h => by have := (h x).1 (by simp); simp at this
  | x :: r, y :: q, hr, hq, h => by
    obtain ⟨hr1, hr2⟩ := List.pairwise_cons.1 hr
    obtain ⟨hq1, hq2⟩ := List.pairwise_cons.1 hq
    have irr : ∀ a : List UInt8, ¬ compareBytes a a < 0 := fun a => by rw [cmp_self]; omega
    have e : x = y := by
      have h1 := (h x).1 (by simp)
      have h2 := (h y).2 (by simp)
      rcases List.mem_cons.1 h1 with e | m1
      · exact e
      · rcases List.mem_cons.1 h2 with e | m2
        · exact e.symm
        · exact absurd (cmp_trans _ _ _ (hr1 y m2) (hq1 x m1)) (irr _)
    subst e
    have ht : r = q := rises_eq hr2 hq2 fun z => by
      constructor
      · intro hz
        rcases List.mem_cons.1 ((h z).1 (by simp [hz])) with e | m
        · subst e; exact absurd (hr1 z hz) (irr _)
        · exact m
      · intro hz
        rcases List.mem_cons.1 ((h z).2 (by simp [hz])) with e | m
        · subst e; exact absurd (hq1 z hz) (irr _)
        · exact m
    rw [ht]

/-- the sum of a name's numbers -/
def sumOf : List Te → List UInt8 → Int
  | [], _ => 0
  | t :: l, s => (if t.2 = s then t.1 else 0) + sumOf l s
theorem sumOf_append (s : List UInt8) : ∀ a b : List Te, sumOf (a ++ b) s = sumOf a s + sumOf b s
  | [], b => by simp [sumOf]
  | t :: a, b => by simp [sumOf, sumOf_append s a b]; omega
theorem sumOf_perm {a b : List Te} (h : a.Perm b) (s : List UInt8) : sumOf a s = sumOf b s := by
  induction h with
  | nil => rfl
  | cons x _ ih => simp [sumOf, ih]
  | swap x y l => simp [sumOf]; omega
  | trans _ _ ih1 ih2 => exact ih1.trans ih2

/-- r is the normal form of l -/
structure NF (l r : List Te) : Prop where
  rise : Rises r
  mem : ∀ n s, (n, s) ∈ r ↔ n = sumOf l s ∧ n ≠ 0
theorem NF.uniq {l r q : List Te} (h : NF l r) (k : NF l q) : r = q :=
  rises_eq h.rise k.rise fun x => by
    obtain ⟨n, s⟩ := x
    rw [h.mem, k.mem]
theorem NF.perm {l l' r : List Te} (h : NF l r) (p : l.Perm l') : NF l' r := ⟨h.rise, fun n s => by rw [h.mem, sumOf_perm p]⟩

/-- neighbours of one name are put together, from the front on -/
def mstep (acc : List Te) (t : Te) : List Te :=
  match acc.getLast? with
  | some u => if u.2 = t.2 then acc.dropLast ++ [(u.1 + t.1, u.2)] else acc ++ [t]
  | none => [t]
/-- what has been put together of 'done' -/
structure MG (done acc : List Te) : Prop where
  rise : Rises acc
  sum : ∀ n s, (n, s) ∈ acc → n = sumOf done s
  all : ∀ t, t ∈ done → ∃ n, (n, t.2) ∈ acc
theorem sumOf_none {l : List Te} {s : List UInt8} (h : ∀ t ∈ l, t.2 ≠ s) : sumOf l s = 0 := by
  induction l with
  | nil => rfl
  | cons t l ih =>
    unfold sumOf
    rw [if_neg (h t (by simp)), ih (fun u hu => h u (by simp [hu]))]
    rfl
theorem mg_nil : MG [] [] := ⟨List.Pairwise.nil, fun _ _ h => by simp at h, fun _ h => by simp at h⟩
theorem mg_new {done acc : List Te} {t : Te} (h : MG done acc) (hlt : ∀ u ∈ acc, compareBytes u.2 t.2 < 0) : MG (done ++ [t]) (acc ++ [t]) := by
  have hno : ∀ u ∈ done, u.2 ≠ t.2 := fun u hu e => by
    obtain ⟨n, hn⟩ := h.all u hu
    have := hlt _ hn
    rw [e, cmp_self] at this
    omega
  refine ⟨?_, fun n s hm => ?_, fun u hu => ?_⟩
  · unfold Rises
    rw [List.pairwise_append]
    exact ⟨h.rise, List.pairwise_singleton _ _, fun a ha b hb => by simp at hb; subst hb; exact hlt a ha⟩
  · rw [sumOf_append]
    rcases List.mem_append.1 hm with m | m
    · have e := h.sum n s m
      have hne : t.2 ≠ s := fun e2 => by
        have := hlt _ m
        simp only at this
        rw [← e2, cmp_self] at this
        omega
      simp [sumOf, hne, e]
    · simp at m
      obtain rfl : t = (n, s) := m.symm
      rw [sumOf_none hno]
      simp [sumOf]
  · rcases List.mem_append.1 hu with m | m
    · obtain ⟨n, hn⟩ := h.all u m
      exact ⟨n, by simp [hn]⟩
    · simp at m
      subst m
      exact ⟨u.1, by simp⟩
theorem mg_more {done acc : List Te} {t u : Te} (h : MG done (acc ++ [u])) (he : u.2 = t.2) : MG (done ++ [t]) (acc ++ [(u.1 + t.1, u.2)]) := by
  have hr := h.rise
  unfold Rises at hr
  rw [List.pairwise_append] at hr
  obtain ⟨r1, _, r3⟩ := hr
  refine ⟨?_, fun n s hm => ?_, fun x hx => ?_⟩
  · unfold Rises
    rw [List.pairwise_append]
    exact ⟨r1, List.pairwise_singleton _ _, fun a ha b hb => by simp at hb; subst hb; exact r3 a ha u (by simp)⟩
  · rw [sumOf_append]
    rcases List.mem_append.1 hm with m | m
    · have e := h.sum n s (by simp [m])
      have hne : t.2 ≠ s := fun e2 => by
        have := r3 _ m u (by simp)
        simp only at this
        rw [he, e2, cmp_self] at this
        omega
      simp [sumOf, hne, e]
    · simp at m
      obtain ⟨rfl, rfl⟩ := m
      have e := h.sum u.1 u.2 (by simp)
      simp [sumOf, he]
      rw [← he]
      omega
  · rcases List.mem_append.1 hx with m | m
    · obtain ⟨n, hn⟩ := h.all x m
      rcases List.mem_append.1 hn with m2 | m2
      · exact ⟨n, by simp [m2]⟩
      · simp at m2
        obtain rfl : u = (n, x.2) := m2.symm
        exact ⟨n + t.1, by simp⟩
    · simp at m
      subst m
      exact ⟨u.1 + x.1, by simp [he]⟩
theorem mg_nf {l acc : List Te} (h : MG l acc) : NF l (acc.filter fun t => t.1 ≠ 0) := by
  refine ⟨List.Pairwise.filter _ h.rise, fun n s => ?_⟩
  simp only [List.mem_filter, decide_eq_true_eq, ne_eq]
  constructor
  · rintro ⟨m, h0⟩
    exact ⟨h.sum n s m, by simpa using h0⟩
  · rintro ⟨e, h0⟩
    have hex : ∃ t ∈ l, t.2 = s := by
      refine Classical.byContradiction fun hn => h0 ?_
      rw [e]
      exact sumOf_none fun t ht e2 => hn ⟨t, ht, e2⟩
    obtain ⟨t, ht, e2⟩ := hex
    obtain ⟨m, hm⟩ := h.all t ht
    rw [e2] at hm
    have := h.sum m s hm
    rw [e, ← this]
    exact ⟨hm, by rw [this, ← e]; simpa using h0⟩

/-- the document's own way: the names up to one have been told -/
structure Told (l out : List Te) (upto : List UInt8 → Prop) : Prop where
  rise : Rises out
  mem : ∀ n s, (n, s) ∈ out ↔ n = sumOf l s ∧ n ≠ 0 ∧ upto s
theorem told_nil (l : List Te) : Told l [] fun _ => False := ⟨List.Pairwise.nil, fun n s => by simp⟩
/-- the least name that is left -/
theorem told_next {l out : List Te} {upto : List UInt8 → Prop} {s : List UInt8} (h : Told l out upto) (hlt : ∀ x, upto x → compareBytes x s < 0) (hleast : ∀ t ∈ l, ¬ upto t.2 → ¬ compareBytes t.2 s < 0) :
    Told l (if sumOf l s = 0 then out else out ++ [(sumOf l s, s)]) fun x => upto x ∨ x = s := by
  have hs : ¬ upto s := fun hu => by have := hlt s hu; rw [cmp_self] at this; omega
  by_cases h0 : sumOf l s = 0
  · rw [if_pos h0]
    refine ⟨h.rise, fun n x => ?_⟩
    rw [h.mem]
    constructor
    · rintro ⟨a, b, c⟩
      exact ⟨a, b, .inl c⟩
    · rintro ⟨a, b, c | c⟩
      · exact ⟨a, b, c⟩
      · subst c
        exact absurd (a.trans h0) b
  · rw [if_neg h0]
    refine ⟨?_, fun n x => ?_⟩
    · unfold Rises
      rw [List.pairwise_append]
      refine ⟨h.rise, List.pairwise_singleton _ _, fun a ha b hb => ?_⟩
      simp at hb
      subst hb
      exact hlt a.2 ((h.mem a.1 a.2).1 ha).2.2
    · rw [List.mem_append, h.mem]
      constructor
      · rintro (⟨a, b, c⟩ | m)
        · exact ⟨a, b, .inl c⟩
        · simp at m
          obtain ⟨rfl, rfl⟩ := m
          exact ⟨rfl, h0, .inr rfl⟩
      · rintro ⟨a, b, c | c⟩
        · exact .inl ⟨a, b, c⟩
        · subst c
          exact .inr (by simp [a])
theorem told_nf {l out : List Te} {upto : List UInt8 → Prop} (h : Told l out upto) (hall : ∀ t ∈ l, upto t.2) : NF l out := by
  refine ⟨h.rise, fun n s => ?_⟩
  rw [h.mem]
  constructor
  · rintro ⟨a, b, _⟩
    exact ⟨a, b⟩
  · rintro ⟨a, b⟩
    refine ⟨a, b, ?_⟩
    have hex : ∃ t ∈ l, t.2 = s := by
      refine Classical.byContradiction fun hn => b ?_
      rw [a]
      exact sumOf_none fun t ht e2 => hn ⟨t, ht, e2⟩
    obtain ⟨t, ht, rfl⟩ := hex
    exact hall t ht

/-- what a size comes to, its names being numbers -/
def valOf (v : List UInt8 → Int) : List Te → Int
  | [] => 0
  | t :: l => t.1 * v t.2 + valOf v l
theorem valOf_append (v : List UInt8 → Int) : ∀ a b : List Te, valOf v (a ++ b) = valOf v a + valOf v b
  | [], b => by simp [valOf]
  | t :: a, b => by simp [valOf, valOf_append v a b]; omega

theorem mstep_nil (t : Te) : mstep [] t = [t] := rfl
theorem mstep_more {acc : List Te} {t u : Te} (h : u.2 = t.2) : mstep (acc ++ [u]) t = acc ++ [(u.1 + t.1, u.2)] := by
  simp [mstep, h]
theorem mstep_new {acc : List Te} {t u : Te} (h : u.2 ≠ t.2) : mstep (acc ++ [u]) t = acc ++ [u] ++ [t] := by
  simp [mstep, h]
theorem mg_last {done acc : List Te} {t u : Te} (h : MG done (acc ++ [u])) (hle : compareBytes u.2 t.2 ≤ 0) (hne : u.2 ≠ t.2) : ∀ x ∈ acc ++ [u], compareBytes x.2 t.2 < 0 := by
  have hu : compareBytes u.2 t.2 < 0 := by
    rcases cmp_range u.2 t.2 with q | q | q
    · omega
    · exact absurd (cmp_zero _ _ q) hne
    · omega
  have hr := h.rise
  unfold Rises at hr
  rw [List.pairwise_append] at hr
  intro x hx
  rcases List.mem_append.1 hx with m | m
  · exact cmp_trans _ _ _ (hr.2.2 x m u (by simp)) hu
  · simp at m
    subst m
    exact hu
theorem fold_mg (v : List UInt8 → Int) : ∀ (l done acc : List Te), MG done acc → (∀ u ∈ acc, ∀ t ∈ l, compareBytes u.2 t.2 ≤ 0) → l.Pairwise (fun x y => compareBytes x.2 y.2 ≤ 0) →
    MG (done ++ l) (l.foldl mstep acc) ∧ valOf v (l.foldl mstep acc) = valOf v acc + valOf v l
  | [], done, acc, h, _, _ => by simpa [valOf] using h
  | t :: l, done, acc, h, hle, hs => by
    obtain ⟨hs1, hs2⟩ := List.pairwise_cons.1 hs
    have key : MG (done ++ [t]) (mstep acc t) ∧ valOf v (mstep acc t) = valOf v acc + t.1 * v t.2 ∧ ∀ u ∈ mstep acc t, (∃ x ∈ acc, x.2 = u.2) ∨ u.2 = t.2 := by
      rcases List.eq_nil_or_concat acc with rfl | ⟨a, u, rfl⟩
      · rw [mstep_nil]
        exact ⟨mg_new h (fun u hu => by simp at hu), by simp [valOf], fun u hu => .inr (by simp at hu; rw [hu])⟩
      · rw [List.concat_eq_append] at h hle ⊢
        by_cases e : u.2 = t.2
        · rw [mstep_more e]
          refine ⟨mg_more h e, ?_, fun x hx => ?_⟩
          · simp only [valOf_append, valOf, ← e, Int.add_mul]; omega
          · rcases List.mem_append.1 hx with m | m
            · exact .inl ⟨x, by simp [m], rfl⟩
            · simp at m; subst m; exact .inr e
        · rw [mstep_new e]
          refine ⟨mg_new h (mg_last h (hle u (by simp) t (by simp)) e), ?_, fun x hx => ?_⟩
          · simp only [valOf_append, valOf]; omega
          · rcases List.mem_append.1 hx with m | m
            · exact .inl ⟨x, m, rfl⟩
            · simp at m; subst m; exact .inr rfl
    obtain ⟨k1, k2, k3⟩ := key
    have ih := fold_mg v l (done ++ [t]) (mstep acc t) k1 (fun u hu x hx => by
      rcases k3 u hu with ⟨y, hy, e⟩ | e
      · rw [← e]; exact hle y hy x (by simp [hx])
      · rw [e]; exact hs1 x hx) hs2
    rw [List.append_assoc] at ih
    refine ⟨ih.1, ?_⟩
    rw [List.foldl_cons, ih.2, k2]
    simp only [valOf]
    omega
theorem valOf_filter (v : List UInt8 → Int) : ∀ l : List Te, valOf v (l.filter fun t => t.1 ≠ 0) = valOf v l
  | [] => rfl
  | t :: l => by
    by_cases h : t.1 = 0
    · rw [List.filter_cons_of_neg (by simp [h]), valOf_filter v l]
      simp [valOf, h]
    · rw [List.filter_cons_of_pos (by simp [h])]
      simp only [valOf, valOf_filter v l]
theorem valOf_perm (v : List UInt8 → Int) {a b : List Te} (h : a.Perm b) : valOf v a = valOf v b := by
  induction h with
  | nil => rfl
  | cons x _ ih => simp [valOf, ih]
  | swap x y l => simp [valOf]; omega
  | trans _ _ ih1 ih2 => exact ih1.trans ih2
/-- a size comes to what its normal form comes to -/
theorem NF.val {l r : List Te} (h : NF l r) (v : List UInt8 → Int) : valOf v r = valOf v l := by
  let le : Te → Te → Bool := fun x y => decide (compareBytes x.2 y.2 ≤ 0)
  have ht : ∀ a b c : Te, le a b = true → le b c = true → le a c = true := fun a b c h1 h2 => by
    simp only [le, decide_eq_true_eq] at h1 h2 ⊢
    rcases cmp_range a.2 b.2 with q | q | q
    · rcases cmp_range b.2 c.2 with q2 | q2 | q2
      · have := cmp_trans a.2 b.2 c.2 (by omega) (by omega); omega
      · rw [← cmp_zero _ _ q2]; omega
      · omega
    · rw [cmp_zero _ _ q]; exact h2
    · omega
  have htot : ∀ a b : Te, (le a b || le b a) = true := fun a b => by
    simp only [le, Bool.or_eq_true, decide_eq_true_eq]
    have := cmp_flip a.2 b.2
    omega
  have hp := List.mergeSort_perm l le
  have hs := List.pairwise_mergeSort ht htot l
  have hs2 : (l.mergeSort le).Pairwise fun x y => compareBytes x.2 y.2 ≤ 0 := hs.imp fun {a b} h => by simpa [le] using h
  obtain ⟨m1, m2⟩ := fold_mg v (l.mergeSort le) [] [] mg_nil (fun u hu => by simp at hu) hs2
  rw [List.nil_append] at m1
  have e := (h.perm hp.symm).uniq (mg_nf m1)
  rw [e, valOf_filter, m2, ← valOf_perm v hp]
  simp [valOf]
/-- sizes of one normal form come to the same numbers -/
theorem NF.same_val {a b r : List Te} (h : NF a r) (k : NF b r) (v : List UInt8 → Int) : valOf v a = valOf v b := by rw [← h.val v, k.val v]

/-- is it above the last one that was told? -/
def gtO (β : Option (List UInt8)) (s : List UInt8) : Bool :=
  match β with
  | none => true
  | some x => decide (compareBytes x s < 0)
def Upto (β : Option (List UInt8)) (s : List UInt8) : Prop := ∃ x, β = some x ∧ compareBytes s x ≤ 0
theorem told_start (l : List Te) : Told l [] (Upto none) := ⟨List.Pairwise.nil, fun n s => by simp [Upto]⟩
theorem le_lt {a b c : List UInt8} (h : compareBytes a b ≤ 0) (k : compareBytes b c < 0) : compareBytes a c < 0 := by
  rcases cmp_range a b with q | q | q
  · exact cmp_trans _ _ _ (by omega) k
  · rw [cmp_zero _ _ q]; exact k
  · omega
theorem told_least {l out : List Te} {β : Option (List UInt8)} {s : List UInt8} (h : Told l out (Upto β)) (hgt : gtO β s = true) (hleast : ∀ t ∈ l, gtO β t.2 = true → ¬ compareBytes t.2 s < 0) :
    Told l (if sumOf l s = 0 then out else out ++ [(sumOf l s, s)]) (Upto (some s)) := by
  have hlt : ∀ x, Upto β x → compareBytes x s < 0 := by
    rintro x ⟨y, rfl, hy⟩
    exact le_lt hy (by simpa [gtO] using hgt)
  have hup : ∀ t ∈ l, (Upto (some s) t.2 ↔ (Upto β t.2 ∨ t.2 = s)) := by
    intro t ht
    constructor
    · rintro ⟨x, e, hx⟩
      injection e with e
      subst e
      by_cases hg : gtO β t.2 = true
      · have := hleast t ht hg
        have h0 : compareBytes t.2 s = 0 := by omega
        exact .inr (cmp_zero _ _ h0)
      · cases β with
        | none => simp [gtO] at hg
        | some y =>
          have : ¬ compareBytes y t.2 < 0 := by simpa [gtO] using hg
          have hf := cmp_flip y t.2
          exact .inl ⟨y, rfl, by omega⟩
    · rintro (hu | e)
      · exact ⟨s, rfl, by have := hlt _ hu; omega⟩
      · exact ⟨s, rfl, by rw [e, cmp_self]; omega⟩
  have base := told_next (s := s) h hlt (fun t ht hnu hc => by
    have hu : Upto (some s) t.2 := ⟨s, rfl, by omega⟩
    rcases (hup t ht).1 hu with q | q
    · exact hnu q
    · rw [q, cmp_self] at hc; omega)
  refine ⟨base.rise, fun n x => ?_⟩
  rw [base.mem]
  constructor
  · rintro ⟨a, b, c⟩
    refine ⟨a, b, ?_⟩
    rcases c with c | c
    · exact ⟨s, rfl, by have := hlt _ c; omega⟩
    · exact ⟨s, rfl, by rw [c, cmp_self]; omega⟩
  · rintro ⟨a, b, c⟩
    refine ⟨a, b, ?_⟩
    have hex : ∃ t ∈ l, t.2 = x := by
      refine Classical.byContradiction fun hn => b ?_
      rw [a]
      exact sumOf_none fun t ht e2 => hn ⟨t, ht, e2⟩
    obtain ⟨t, ht, rfl⟩ := hex
    exact (hup t ht).1 c
theorem told_all {l out : List Te} {β : Option (List UInt8)} (h : Told l out (Upto β)) (hno : ∀ t ∈ l, gtO β t.2 = false) : NF l out := by
  refine told_nf h fun t ht => ?_
  have := hno t ht
  cases β with
  | none => simp [gtO] at this
  | some y =>
    have h2 : ¬ compareBytes y t.2 < 0 := by simpa [gtO] using this
    have hf := cmp_flip y t.2
    exact ⟨y, rfl, by omega⟩
/-- how many are left -/
def unt (l : List Te) (β : Option (List UInt8)) : Nat := (l.filter fun t => gtO β t.2).length
theorem filter_lt {α : Type} {p q : α → Bool} : ∀ {l : List α}, (∀ x ∈ l, p x = true → q x = true) → (∃ a ∈ l, q a = true ∧ p a = false) → (l.filter p).length < (l.filter q).length
  | [], _, h => by obtain ⟨a, ha, _⟩ := h; simp at ha
  | x :: l, hpq, h => by
    have hle : ∀ m : List α, (∀ y ∈ m, p y = true → q y = true) → (m.filter p).length ≤ (m.filter q).length := by
      intro m
      induction m with
      | nil => intro _; simp
      | cons y m ih =>
        intro hy
        have := ih (fun z hz => hy z (by simp [hz]))
        cases hp : p y with
        | true => simp [hp, hy y (by simp) hp]; omega
        | false =>
          cases hq : q y with
          | true => simp [hp, hq]; omega
          | false => simp [hp, hq]; omega
    obtain ⟨a, ha, h1, h2⟩ := h
    rcases List.mem_cons.1 ha with e | m
    · subst e
      have := hle l (fun z hz => hpq z (by simp [hz]))
      simp [h1, h2]
      omega
    · have ih := filter_lt (l := l) (fun z hz => hpq z (by simp [hz])) ⟨a, m, h1, h2⟩
      cases hp : p x with
      | true => simp [hp, hpq x (by simp) hp]; omega
      | false =>
        cases hq : q x with
        | true => simp [hp, hq]; omega
        | false => simp [hp, hq]; omega
theorem unt_less {l : List Te} {β : Option (List UInt8)} {s : List UInt8} (hs : ∃ t ∈ l, t.2 = s) (hgt : gtO β s = true) : unt l (some s) < unt l β := by
  refine filter_lt (fun x hx h => ?_) ?_
  · cases β with
    | none => rfl
    | some y =>
      have h1 : compareBytes s x.2 < 0 := by simpa [gtO] using h
      have h2 : compareBytes y s < 0 := by simpa [gtO] using hgt
      simpa [gtO] using cmp_trans _ _ _ h2 h1
  · obtain ⟨t, ht, rfl⟩ := hs
    exact ⟨t, ht, hgt, by simp [gtO, cmp_self]⟩

end Go.Proofs.Ytjpjedigajiomaa
