/-
  DERIVED. THE PLAIN MATHEMATICS of what is put into a size.
-/
import Derived.Test.YtjpjedigajiomaaSzX
import Derived.Test.YtjpjedigajiomaaSzJ
namespace Go.Proofs.Ytjpjedigajiomaa
open Go.Shelf Go.RowKit Go.Lib Go.IntWalk Go.Maps
set_option linter.unusedVariables false
set_option linter.unusedSimpArgs false
set_option maxRecDepth 100000

def names2 : List ByteArray := [⟨#[107]⟩, ⟨#[109]⟩]
/-- a term that can be reckoned -/
def GTm (t : Tm) : Prop := N4 t.2.data.toList ∧ small t.1 = true
theorem STm.g {t : Tm} (h : STm t) : GTm t := ⟨h.n4, small_iff.2 (by have := h.n; omega)⟩
theorem val3g {l : List Tm} {a b d x c e : Int} (h : ∀ t ∈ l, GTm t) (hl : l.length ≤ 1000) (ha : small a = true) (hb : small b = true) (hd : small d = true) (hv : ValP l names3 [a, b, d] x c e) : c = 0 ∧ x = valOf (V3 a b d) (l.map te) := by
  rcases hv with ⟨hf, hc, _⟩ | ⟨_, _, r, hnf, h1, h2, _⟩
  · exact absurd ⟨hl, fun t ht => (h t ht).2⟩ (faultP_not hf hc)
  · have hr : ∀ t ∈ r, N4 t.2 := fun t ht => by
      obtain ⟨y, hy, e⟩ := nf_name hnf (n := t.1) (s := t.2) ht
      obtain ⟨z, hz, rfl⟩ := List.mem_map.1 hy
      rw [← e]
      exact (h z hz).1
    rw [vrun3 ha hb hd r 0 hr] at h1 h2
    refine ⟨h2, ?_⟩
    rw [h1, ← hnf.val]
    simp
theorem val_times (V : List UInt8 → Int) (n : Int) : ∀ m : List Tm, valOf V ((m.map (times n)).map te) = n * valOf V (m.map te)
  | [] => by simp [valOf]
  | t :: m => by
    have ih := val_times V n m
    simp only [List.map_cons, valOf, times, te] at *
    rw [ih, Int.mul_add, Int.mul_assoc]
theorem plc2 : plc names2 2 [] = none ∧ plc names2 2 [107] = some 0 ∧ plc names2 2 [109] = some 1 ∧ plc names2 2 [110] = none := by decide
theorem wt2 {l1 l2 : List Tm} {t : Tm} (h : N4 t.2.data.toList) : wt names2 [l1, l2] t = if t.2.data.toList = [107] then l1.map (times t.1) else if t.2.data.toList = [109] then l2.map (times t.1) else [t] := by
  obtain ⟨p0, p1, p2, p3⟩ := plc2
  unfold wt
  rcases h with e | e | e | e <;> rw [e]
  · rw [show ([l1, l2] : List (List Tm)).length = 2 from rfl, p0]; simp
  · rw [show ([l1, l2] : List (List Tm)).length = 2 from rfl, p1]; simp
  · rw [show ([l1, l2] : List (List Tm)).length = 2 from rfl, p2]; simp
  · rw [show ([l1, l2] : List (List Tm)).length = 2 from rfl, p3]; simp
theorem put_val {l1 l2 : List Tm} {a b d : Int} : ∀ l0 : List Tm, (∀ t ∈ l0, STm t) → valOf (V3 a b d) ((withL names2 [l1, l2] l0).map te) = valOf (V3 (valOf (V3 a b d) (l1.map te)) (valOf (V3 a b d) (l2.map te)) d) (l0.map te)
  | [], _ => by simp [withL, valOf]
  | t :: l0, h => by
    have ih := put_val (l1 := l1) (l2 := l2) (a := a) (b := b) (d := d) l0 (fun u hu => h u (by simp [hu]))
    have ht := (h t (by simp)).n4
    have e : withL names2 [l1, l2] (t :: l0) = wt names2 [l1, l2] t ++ withL names2 [l1, l2] l0 := by simp [withL]
    rw [e, List.map_append, valOf_append, ih, wt2 ht]
    simp only [List.map_cons, valOf]
    congr 1
    rcases ht with e | e | e | e
    · simp [e, valOf, te, V3]
    · rw [if_pos e, val_times]
      simp [te, e, V3]
    · rw [if_neg (by rw [e]; decide), if_pos e, val_times]
      simp [te, e, V3]
    · rw [if_neg (by rw [e]; decide), if_neg (by rw [e]; decide)]
      simp [valOf, te, e, V3]
theorem wt_len20 {l1 l2 : List Tm} {t : Tm} (h : N4 t.2.data.toList) (h1 : l1.length ≤ 20) (h2 : l2.length ≤ 20) : (wt names2 [l1, l2] t).length ≤ 20 := by
  rw [wt2 h]
  split
  · simpa using h1
  · split
    · simpa using h2
    · simp
theorem withL_len20 {l1 l2 : List Tm} (h1 : l1.length ≤ 20) (h2 : l2.length ≤ 20) : ∀ l0 : List Tm, (∀ t ∈ l0, STm t) → (withL names2 [l1, l2] l0).length ≤ l0.length * 20
  | [], _ => by simp [withL]
  | t :: l0, h => by
    have ih := withL_len20 h1 h2 l0 (fun u hu => h u (by simp [hu]))
    have ht := wt_len20 (t := t) (h t (by simp)).n4 h1 h2
    have e : withL names2 [l1, l2] (t :: l0) = wt names2 [l1, l2] t ++ withL names2 [l1, l2] l0 := by simp [withL]
    rw [e, List.length_append, List.length_cons]
    omega
theorem withL_g {l0 l1 l2 : List Tm} (h0 : ∀ t ∈ l0, STm t) (h1 : ∀ t ∈ l1, STm t) (h2 : ∀ t ∈ l2, STm t) : ∀ u ∈ withL names2 [l1, l2] l0, GTm u ∧ u.2.size ≤ maxLen := by
  have sz : ∀ x : Tm, STm x → x.2.size ≤ maxLen := fun x hx => by
    rcases hx.name with e | e | e | e <;> rw [e] <;> decide
  have tm : ∀ t x : Tm, STm t → STm x → GTm (times t.1 x) := fun t x ht hx => by
    refine ⟨hx.n4, small_iff.2 ?_⟩
    have a := ht.n
    have b := hx.n
    show -1000000 ≤ t.1 * x.1 ∧ t.1 * x.1 ≤ 1000000
    have c1 : x.1 = -3 ∨ x.1 = -2 ∨ x.1 = -1 ∨ x.1 = 0 ∨ x.1 = 1 ∨ x.1 = 2 ∨ x.1 = 3 := by omega
    rcases c1 with e | e | e | e | e | e | e <;> rw [e] <;> omega
  intro u hu
  unfold withL at hu
  obtain ⟨t, ht, hu⟩ := List.mem_flatMap.1 hu
  have hst := h0 t ht
  rw [wt2 hst.n4] at hu
  split at hu
  · obtain ⟨x, hx, rfl⟩ := List.mem_map.1 hu
    exact ⟨tm t x hst (h1 x hx), sz x (h1 x hx)⟩
  · split at hu
    · obtain ⟨x, hx, rfl⟩ := List.mem_map.1 hu
      exact ⟨tm t x hst (h2 x hx), sz x (h2 x hx)⟩
    · simp at hu
      subst hu
      exact ⟨hst.g, sz u hst⟩
theorem wcode_2 {l0 l1 l2 : List Tm} (h0 : ∀ t ∈ l0, STm t) (h1 : ∀ t ∈ l1, STm t) (h2 : ∀ t ∈ l2, STm t) (e0 : l0.length ≤ 20) (e1 : l1.length ≤ 20) (e2 : l2.length ≤ 20) : wcode names2 [l1, l2] l0 = 0 := by
  have hb : l0.any (wbad names2 [l1, l2]) = false := by
    rw [List.any_eq_false]
    intro t ht
    have hst := h0 t ht
    unfold wbad
    cases hp : plc names2 ([l1, l2] : List (List Tm)).length t.2.data.toList with
    | none => simp
    | some q =>
      have hq := (plc_lt hp).1
      simp only
      have hm : ([l1, l2] : List (List Tm)).getD q [] = l1 ∨ ([l1, l2] : List (List Tm)).getD q [] = l2 := by
        have : q = 0 ∨ q = 1 := by simp at hq; omega
        rcases this with rfl | rfl
        · exact .inl rfl
        · exact .inr rfl
      rcases hm with e | e <;> rw [e] <;> rw [List.any_eq_true] <;> rintro ⟨u, hu, hx⟩
      · rw [(h1 u hu).g.2, hst.g.2] at hx; simp at hx
      · rw [(h2 u hu).g.2, hst.g.2] at hx; simp at hx
  have hl := withL_len20 e1 e2 l0 h0
  unfold wcode
  rw [hb, if_neg (by decide), if_neg (by omega)]
theorem val_small {l : List Tm} {a b d : Int} (h : ∀ t ∈ l, STm t) (hl : l.length ≤ 20) (ha : 0 ≤ a ∧ a ≤ 4) (hb : 0 ≤ b ∧ b ≤ 4) (hd : 0 ≤ d ∧ d ≤ 4) : small (valOf (V3 a b d) (l.map te)) = true := by
  have key : ∀ l : List Tm, (∀ t ∈ l, STm t) → -(12 * (l.length : Int)) ≤ valOf (V3 a b d) (l.map te) ∧ valOf (V3 a b d) (l.map te) ≤ 12 * (l.length : Int) := by
    intro l
    induction l with
    | nil => intro _; simp [valOf]
    | cons t l ih =>
      intro h
      have i1 := ih (fun u hu => h u (by simp [hu]))
      have n := (h t (by simp)).n
      have hv : 0 ≤ V3 a b d t.2.data.toList ∧ V3 a b d t.2.data.toList ≤ 4 := by
        unfold V3
        split
        · omega
        · split
          · exact ha
          · split
            · exact hb
            · split
              · exact hd
              · omega
      simp only [List.map_cons, valOf, List.length_cons]
      show -(12 * ((l.length + 1 : Nat) : Int)) ≤ t.1 * V3 a b d t.2.data.toList + _ ∧ t.1 * V3 a b d t.2.data.toList + _ ≤ _
      generalize V3 a b d t.2.data.toList = y at hv
      have c1 : t.1 = -3 ∨ t.1 = -2 ∨ t.1 = -1 ∨ t.1 = 0 ∨ t.1 = 1 ∨ t.1 = 2 ∨ t.1 = 3 := by omega
      have c2 : -12 ≤ t.1 * y ∧ t.1 * y ≤ 12 := by rcases c1 with e | e | e | e | e | e | e <;> rw [e] <;> omega
      omega
  have := key l h
  exact small_iff.2 (by omega)
theorem withP_2 {B : Nat} {w : World} {l0 l1 l2 : List Tm} {u : Value} {c a : Int} (h : WithP B w names2 [l1, l2] l0 u c a) (hz : wcode names2 [l1, l2] l0 = 0) : c = 0 ∧ a = 0 ∧ OwnL kTerm B w u (withL names2 [l1, l2] l0) := by
  obtain ⟨hc, h⟩ := h
  rw [hz] at hc
  rcases h with ⟨h1, _, _⟩ | ⟨_, h2, h3⟩
  · exact absurd hc h1
  · exact ⟨hc, h2, h3⟩
theorem blk_names2 {w : World} {g : Nat} (h : w.heap[g]? = some (.cells (names3.map Value.string).toArray 9 (0, 0))) : HNames (fun i => g = i) w (.slice (some ⟨g, 0, none⟩) 2 3) names2 := by
  refine ⟨fun i => [.string (names2[i]!)], ⟨_, _, rfl, by decide, by decide, fun _ => ⟨g, 0, rfl, rfl, lt_of h, fun i hi => ⟨rfl, fun j hj => ?_⟩⟩⟩, fun i hi => by simp [hi]⟩
  have hj0 : j = 0 := by omega
  subst hj0
  rw [cell_of h]
  have hi' : i < 2 := hi
  rcases (by omega : i = 0 ∨ i = 1) with rfl | rfl <;> rfl
theorem arr_sizes {w : World} {g : Nat} {t : TypeId} {u0 u1 u2 : Value} {l1 l2 : List Tm} (h : w.heap[g]? = some (.cells #[u0, u1, u2] t (0, 0))) (h1 : HTerms (fun _ => True) w u1 l1) (h2 : HTerms (fun _ => True) w u2 l2) : HSizes (fun _ => True) w (.slice (some ⟨g, 1, none⟩) 2 2) [l1, l2] := by
  refine ⟨fun i => if i = 0 then [u1] else [u2], ⟨_, _, rfl, Nat.le_refl 2, by unfold maxLen; omega, fun _ => ⟨g, 1, rfl, trivial, lt_of h, fun i hi => ?_⟩⟩, fun i hi => ?_⟩
  · have hi' : i < 2 := hi
    refine ⟨by rcases (by omega : i = 0 ∨ i = 1) with rfl | rfl <;> rfl, fun j hj => ?_⟩
    have hj0 : j = 0 := by omega
    subst hj0
    rw [cell_of h]
    rcases (by omega : i = 0 ∨ i = 1) with rfl | rfl <;> rfl
  · have hi' : i < 2 := hi
    rcases (by omega : i = 0 ∨ i = 1) with rfl | rfl
    · exact ⟨u1, rfl, h1⟩
    · exact ⟨u2, rfl, h2⟩
theorem rem5 (y : Int) : 0 ≤ wrap64 ((IntKind.u64.wrap y).tmod 5) ∧ wrap64 ((IntKind.u64.wrap y).tmod 5) ≤ 4 := by
  have h : 0 ≤ IntKind.u64.wrap y := by simp [IntKind.wrap, IntKind.bits, IntKind.signed]; omega
  rw [Int.tmod_eq_emod_of_nonneg h]
  generalize IntKind.u64.wrap y = z at h
  unfold wrap64
  omega
theorem small_04 {a : Int} (h : 0 ≤ a ∧ a ≤ 4) : small a = true := small_iff.2 (by omega)
theorem with_meets {l0 l1 l2 wl : List Tm} {n0 n1 n2 x y z u : Int} (hw : wl = withL names2 [l1, l2] l0) (h0 : ∀ t ∈ l0, STm t) (hx : x = valOf (V3 n0 n1 n2) (wl.map te)) (hy : y = valOf (V3 n0 n1 n2) (l1.map te)) (hz : z = valOf (V3 n0 n1 n2) (l2.map te)) (hu : u = valOf (V3 y z n2) (l0.map te)) : x = u := by
  rw [hx, hw, put_val l0 h0, hu, hy, hz]
theorem st_size {t : Tm} (h : STm t) : t.2.size ≤ maxLen := by
  rcases h.name with e | e | e | e <;> rw [e] <;> decide
theorem names2_size : ∀ x ∈ names2, x.size ≤ maxLen := by decide
theorem names3_size : ∀ x ∈ names3, x.size ≤ maxLen := by decide
theorem ints3 (a b c : Int) : ([a, b, c] : List Int).length ≤ maxLen := by show 3 ≤ maxLen; unfold maxLen; omega
end Go.Proofs.Ytjpjedigajiomaa
