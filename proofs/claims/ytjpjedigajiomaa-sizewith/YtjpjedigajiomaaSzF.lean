/-
  DERIVED. THE WALKS of what package size asks of Go's library at terms (IndexFunc, ContainsFunc), and of faultOf.
-/
import Derived.Test.YtjpjedigajiomaaSzR
import Derived.Shelf.SlicesQ.IndexFunc
import Derived.Shelf.Lay
import Derived.Ground.SlgfProg
import Derived.Lib.SliceRun
namespace Go.Proofs.Ytjpjedigajiomaa
open Go.Shelf Go.RowKit Go.Lib Go.IntWalk
set_option linter.unusedVariables false
set_option linter.unusedSimpArgs false
set_option maxRecDepth 100000

shelf_lay_g SlLaysH0.n6 Slgf 6 at Try 28 as lay28

theorem within_any (n : Int) (w : World) : Calls Try.prog 38 #[.int .i64 n] w fun e w' => e = .returned (.bool (small n)) ∧ Below w.heap.size w w' := by
  unfold small
  by_cases h1 : -1000000 ≤ n
  · by_cases h2 : n ≤ 1000000
    · go_enter Try.func38, Try.ntmps38
      go_wp2
      go_ret
      exact ⟨by simp [h1, h2], Below.refl _ _⟩
    · go_enter Try.func38, Try.ntmps38
      go_wp2
      go_ret
      exact ⟨by simp [h1, h2], Below.refl _ _⟩
  · go_enter Try.func38, Try.ntmps38
    go_wp2
    go_ret
    exact ⟨by rw [show decide (-1000000 ≤ n) = false from decide_eq_false (by omega)]; rfl, Below.refl _ _⟩

/-- a term's two cells -/
def encT (x : Tm) : List Value := [.int .i64 x.1, .string x.2]

theorem beyond_any (x : Tm) (w : World) : Calls Try.prog 29 #[.agg #[.int .i64 x.1, .string x.2]] w fun e w' => e = .returned (.bool (!small x.1)) ∧ Below w.heap.size w w' := by
  go_enter Try.func29, Try.ntmps29
  go_wp2_with fail
  refine (within_any _ _).mono ?_
  rintro e w2 ⟨rfl, b2⟩
  go_wp2
  go_ret
  exact ⟨rfl, ((Below.refl _ w).alloc (Nat.le_refl _) _).trans (b2.mono (by simp))⟩

theorem beyond_below (w : World) : PredBelow Try.prog 29 #[] (fun x => .agg (encT x).toArray) (fun x => !small x.1) w := fun W x hb =>
  (beyond_any x W).mono fun _ _ ⟨he, hb'⟩ => ⟨he, hb.trans (hb'.mono hb.size)⟩

theorem first_bad : ∀ l : List Tm, (∀ j (h : j < l.length), small (l[j]).1 = true) ∨ ∃ i, ∃ h : i < l.length, small (l[i]).1 = false ∧ ∀ j (hj : j < i), small (l[j]'(by omega)).1 = true
  | [] => .inl fun j h => absurd h (Nat.not_lt_zero _)
  | t :: l => by
    cases ht : small t.1 with
    | false => exact .inr ⟨0, by simp, ht, fun j hj => absurd hj (Nat.not_lt_zero _)⟩
    | true =>
      rcases first_bad l with h | ⟨i, hi, h1, h2⟩
      · refine .inl fun j hj => ?_
        cases j with
        | zero => exact ht
        | succ j => exact h j (by simpa using hj)
      · refine .inr ⟨i + 1, by simpa using hi, h1, fun j hj => ?_⟩
        cases j with
        | zero => exact ht
        | succ j => exact h2 j (by omega)

/-- the first one that is beyond, or -1 -/
def firstI (l : List Tm) (r : Int) : Prop :=
  (r = -1 ∧ ∀ j (h : j < l.length), small (l[j]).1 = true) ∨ ∃ i : Nat, ∃ h : i < l.length, r = (i : Int) ∧ small (l[i]).1 = false ∧ ∀ j (hj : j < i), small (l[j]'(by omega)).1 = true

set_option maxHeartbeats 1000000 in
theorem indexFunc_any {ok : Nat → Prop} {w : World} {v : Value} {l : List Tm} (hl : HTerms ok w v l) :
    Calls Try.prog 28 #[v, .func (.func 29) #[] #[]] w fun e w' => ∃ r, e = .returned (.int .i64 r) ∧ firstI l r ∧ Below w.heap.size w w' := by
  obtain ⟨ao, cap, rfl, hc1, hc2, hat⟩ := hl.at
  unfold maxLen at hc2
  cases l with
  | nil =>
    clear hat
    go_enter Try.func28, Try.ntmps28
    go_wp2
    go_loopg [5, 8] 0 (fun g _ s8 wr => s8 = .int .i64 0 ∧ wr = w)
    case atStart => exact ⟨rfl, rfl⟩
    case round =>
      obtain ⟨rfl, rfl⟩ := hrel
      go_wp2
      go_ret
      exact ⟨-1, rfl, .inl ⟨rfl, fun j h => absurd h (Nat.not_lt_zero _)⟩, Below.refl _ _⟩
  | cons t l' =>
    generalize hL : t :: l' = l at *
    have hpos : 0 < l.length := by rw [← hL]; simp
    obtain ⟨b, o, rfl, hb, _, _⟩ := hat 0 hpos
    have eg : ∀ args w, (callFunc 29 args).run Try.prog w = .ok (.enter 29 args) w := enters_of Try.func29 (by kernel_rfl) rfl
    have hcon := AnyQ.slices_IndexFunc lay28 2 Try.isAgg39 Try.sizeOf39 encT (fun _ => rfl) (fun x => !small x.1) 29 #[] eg b o l.length cap l w (beyond_below w) (Nat.le_refl _) (by omega) hb (fun j hj i v hi => by
      obtain ⟨b', o', e, _, t0, t1⟩ := hat j hj
      injection e with e
      injection e with e1 e2
      subst e1; subst e2
      rw [getElem!_pos l j hj] at hi
      match i, hi with
      | 0, hi => simp [encT] at hi; rw [← hi]; exact t0
      | 1, hi => simp [encT] at hi; rw [← hi]; exact t1
      | i + 2, hi => simp [encT] at hi)
    change Calls Try.prog 28 _ _ _ at hcon
    refine hcon.mono ?_
    rintro e w' ⟨rfl, hB⟩
    refine ⟨_, rfl, ?_, hB⟩
    rcases first_bad l with h | ⟨i, hi, h1, h2⟩
    · exact .inl ⟨Lib.idxBy_miss (fun _ y => !small y.1) l l.length default (fun j hj => by show (!small l[j]!.1) = false; rw [getElem!_pos l j hj, h j hj]; rfl), h⟩
    · exact .inr ⟨i, hi, Lib.idxBy_hit (fun _ y => !small y.1) l l.length i default hi (Nat.le_refl _) (by show (!small l[i]!.1) = true; rw [getElem!_pos l i hi, h1]; rfl) (fun j hj => by show (!small l[j]!.1) = false; rw [getElem!_pos l j (by omega), h2 j hj]; rfl), h1, h2⟩

/-- what faultOf tells -/
def FaultP (l : List Tm) (c a : Int) : Prop :=
  (1000 < l.length ∧ c = 7 ∧ a = -1) ∨
  (l.length ≤ 1000 ∧ ∃ i : Nat, ∃ h : i < l.length, small (l[i]).1 = false ∧ (∀ j (hj : j < i), small (l[j]'(by omega)).1 = true) ∧ c = 16 ∧ a = (i : Int)) ∨
  (l.length ≤ 1000 ∧ (∀ t ∈ l, small t.1 = true) ∧ c = 0 ∧ a = 0)

set_option maxHeartbeats 2000000 in
theorem faultOf_any {ok : Nat → Prop} {w : World} {v : Value} {l : List Tm} (hl : HTerms ok w v l) :
    Calls Try.prog 18 #[v] w fun e w' => ∃ c a, e = .returned (.agg #[.int .i64 c, .int .i64 a]) ∧ FaultP l c a ∧ Below w.heap.size w w' := by
  obtain ⟨ao, cap, rfl, hc1, hc2, hat⟩ := hl.at
  unfold maxLen at hc2
  obtain ⟨w1, hw1⟩ : ∃ w1, w1 = w.alloc (.cells #[.int .i64 0, .int .i64 0] 30 (0, 0)) := ⟨_, rfl⟩
  have b1 : Below w.heap.size w w1 := by rw [hw1]; exact (Below.refl _ _).alloc (Nat.le_refl _) _
  have K_w1 : w1.heap[w.heap.size]? = some (.cells #[.int .i64 0, .int .i64 0] 30 (0, 0)) := by rw [hw1]; exact heap_new _ _
  by_cases h1000 : 1000 < l.length
  · have hi : (1000 : Int) < (l.length : Int) := by omega
    have k0 := cell_of K_w1 0
    have k1 := cell_of K_w1 1
    have fk := fun o => free_of K_w1 o
    simp at k0 k1
    clear hl hat
    go_enter Try.func18, Try.ntmps18
    go_upto_region 1 with fail
    rw [← hw1]
    clear hw1
    go_wp2
    exact bodyPost_ret (v := .agg #[.int .i64 7, .int .i64 (-1)]) (by simp [results, Try.results18, go_sem, k0, k1]) rfl ⟨_, _, rfl, .inl ⟨h1000, rfl, rfl⟩, (b1.setCell (p := ⟨w.heap.size, 0, none⟩) (Nat.le_refl _) _).setCell (p := ⟨w.heap.size, 1, none⟩) (Nat.le_refl _) _⟩
  · have hi : ¬ (1000 : Int) < (l.length : Int) := by omega
    have hcon := indexFunc_any (hl.keep (w' := w1) b1.size (fun i _ hl => b1.block i hl))
    clear hl hat
    go_enter Try.func18, Try.ntmps18
    go_upto_region 1 with fail
    rw [← hw1]
    clear hw1
    go_wp2_with fail
    refine hcon.mono ?_
    rintro e w2 ⟨r, rfl, hr, b2⟩
    have K2 := (b2.block _ (lt_of K_w1)).trans K_w1
    have B2 := b1.trans (b2.mono b1.size)
    have k0 := cell_of K2 0
    have k1 := cell_of K2 1
    have fk := fun o => free_of K2 o
    simp at k0 k1
    rcases hr with ⟨rfl, h⟩ | ⟨i, hil, rfl, h1, h2⟩
    · go_wp2
      exact bodyPost_ret (v := .agg #[.int .i64 0, .int .i64 0]) (by simp [results, Try.results18, go_sem, k0, k1]) rfl ⟨_, _, rfl, .inr (.inr ⟨by omega, fun t ht => by
        obtain ⟨j, hj, rfl⟩ := List.mem_iff_getElem.1 ht
        exact h j hj, rfl, rfl⟩), (B2.setCell (p := ⟨w.heap.size, 0, none⟩) (Nat.le_refl _) _).setCell (p := ⟨w.heap.size, 1, none⟩) (Nat.le_refl _) _⟩
    · have H1 := hide h1
      have H2 := hide h2
      clear h1 h2
      have hi0 : (0 : Int) ≤ (i : Int) := by omega
      go_wp2
      exact bodyPost_ret (v := .agg #[.int .i64 16, .int .i64 (i : Int)]) (by simp [results, Try.results18, go_sem, k0, k1]) rfl ⟨_, _, rfl, .inr (.inl ⟨by omega, i, hil, H1.out, H2.out, rfl, rfl⟩), (B2.setCell (p := ⟨w.heap.size, 0, none⟩) (Nat.le_refl _) _).setCell (p := ⟨w.heap.size, 1, none⟩) (Nat.le_refl _) _⟩

end Go.Proofs.Ytjpjedigajiomaa
