/-
  DERIVED. Rows put one behind the other; terms out of numbers; sizeBegun.
-/
import Derived.Test.YtjpjedigajiomaaSzQ
import Derived.Laws.OwnMore
namespace Go.Proofs.Ytjpjedigajiomaa
open Go.Shelf Go.RowKit Go.Lib Go.IntWalk Go.Maps
set_option linter.unusedVariables false
set_option linter.unusedSimpArgs false
set_option maxRecDepth 100000

/-- a row's cells, cell by cell -/
theorem HTerms.news {ok : Nat → Prop} {w : World} {a : Addr} {cap : Nat} {l : List Tm} (h : HTerms ok w (.slice (some a) l.length cap) l) : ∀ j u, (tcs l)[j]? = some u → w.cell? (a.add j) = some u := by
  obtain ⟨ao, cap', ev, _, _, hat⟩ := h.at
  injection ev with ev1 _ _
  subst ev1
  intro j u hj
  have hjl : j < l.length * 2 := by
    rcases Nat.lt_or_ge j (l.length * 2) with h | h
    · exact h
    · rw [List.getElem?_eq_none (by rw [tcs_len]; exact h)] at hj; cases hj
  have hq : j / 2 < l.length := by omega
  obtain ⟨b, o, e, hb, c0, c1⟩ := hat (j / 2) hq
  injection e with e
  subst e
  have adds : (⟨b, o, none⟩ : Addr).add j = ⟨b, o + j, none⟩ := by unfold Addr.add; split <;> simp_all
  rw [adds]
  obtain ⟨g0, g1⟩ := tcs_get [] l (j / 2) hq
  rw [List.append_nil] at g0 g1
  rcases (by omega : j % 2 = 0 ∨ j % 2 = 1) with e | e
  · rw [show o + j / 2 * 2 = o + j by omega] at c0
    rw [show j / 2 * 2 = j by omega] at g0
    rw [c0, ← hj, g0]
  · rw [show o + j / 2 * 2 + 1 = o + j by omega] at c1
    rw [show j / 2 * 2 + 1 = j by omega] at g1
    rw [c1, ← hj, g1]
theorem tcs_one (l : List Tm) : ∀ u ∈ tcs l, u.oneCell' = true := by
  induction l with
  | nil => intro u hu; simp [tcs] at hu
  | cons t l ih =>
    intro u hu
    simp [tcs] at hu
    rcases hu with rfl | rfl | hu
    · rfl
    · rfl
    · exact ih u hu
theorem flat_tcs (l : List Tm) : flat (fun j => [.int .i64 (l[j]!).1, .string (l[j]!).2]) l.length = tcs l := by
  have e1 := tcs_flat (l := l) (D := fun j => [.int .i64 (l[j]!).1, .string (l[j]!).2]) (fun j hj => by simp [hj]) l.length (Nat.le_refl _)
  rw [List.take_length] at e1
  exact e1
theorem own_rows {B : Nat} {w : World} {v : Value} {l : List Tm} (h : OwnL kTerm B w v l) : w.ownsRow B 39 2 v l.length (tcs l) := by
  obtain ⟨D, h1, h2⟩ := h
  have e1 := tcs_flat (l := l) (D := D) (fun j hj => h2 j hj) l.length (Nat.le_refl _)
  rw [List.take_length] at e1
  rw [← e1]
  exact h1
theorem rows_own {B : Nat} {w : World} {v : Value} {l : List Tm} (h : w.ownsRow B 39 2 v l.length (tcs l)) : OwnL kTerm B w v l := by
  refine ⟨fun j => [.int .i64 (l[j]!).1, .string (l[j]!).2], ?_, fun j hj => ?_⟩
  · rw [flat_tcs]; exact h
  · show [Value.int .i64 (l[j]!).1, .string (l[j]!).2] = [.int .i64 (l[j]).1, .string (l[j]).2]
    simp [hj]

/-- append of a row to a row of the call's own -/
theorem run_cat {ok : Nat → Prop} {B : Nat} {w : World} {v u : Value} {l m : List Tm} {ty : TypeId} (hown : OwnL kTerm B w v l) (hm : HTerms ok w u m) (hB : B ≤ w.heap.size) (hlen : l.length + m.length ≤ 3000000) :
    ∃ v' w', (Builtin.append_ #[23, 23] ty #[v, u]).run Try.prog w = .ok v' w' ∧ OwnL kTerm B w' v' (l ++ m) ∧ Below B w w' ∧ w.grownBy w' v.ownBlock := by
  obtain ⟨i0, hi, hz0, hz1, hz2⟩ := info_parts kTerm.info
  obtain ⟨ao, cap, rfl, hc1, hc2, hat⟩ := hm.at
  cases ao with
  | none =>
    cases m with
    | nil =>
      rw [List.length_nil, List.append_nil]
      have hr : (Builtin.append_ #[23, 23] ty #[v, .slice none 0 cap]).run Try.prog w = .ok v w := by
        have hi' : Try.prog.info? 39 = some i0 := hi
        rcases (own_rows hown).2 with ⟨rfl, h0⟩ | ⟨g, c, cur, rfl, _, _, hnc, _⟩
        · simp [Builtin.append_, run_underlying Try.underlying23, sizeOf, typeInfo, hi', Builtin.lenOf, Builtin.firstCells]
        · simp [Builtin.append_, run_underlying Try.underlying23, sizeOf, typeInfo, hi', Builtin.lenOf, Builtin.firstCells, hnc, storeCells]
      exact ⟨v, w, hr, hown, Below.refl _ _, ⟨rfl, rfl, rfl, Nat.le_refl _, fun _ _ _ => rfl⟩⟩
    | cons t m' =>
      obtain ⟨b, o, e, _⟩ := hat 0 (by simp)
      cases e
  | some a =>
    obtain ⟨v', w', hr, h2, h3, h4⟩ := run_push (P := Try.prog) w B 23 ty 39 i0 kTerm.zero 2 24 Try.underlying23 hi hz0 hz1 hz2 rfl (by decide) v l.length _ (own_rows hown) a m.length cap (tcs m) (tcs_len m) hm.news (tcs_one m) (by unfold maxLen; omega) (by omega) hB
    refine ⟨v', w', hr, rows_own ?_, Below.push (Below.refl B w) hB (own_rows hown) h3, h3⟩
    rw [List.length_append, tcs_append]
    exact h2

/-- a term as the laws make it -/
structure STm (t : Tm) : Prop where
  n : -3 ≤ t.1 ∧ t.1 ≤ 3
  name : t.2 = ⟨#[]⟩ ∨ t.2 = ⟨#[107]⟩ ∨ t.2 = ⟨#[109]⟩ ∨ t.2 = ⟨#[110]⟩

set_option maxHeartbeats 4000000 in
theorem sizeTerm_any (n : Int) (w : World) : Calls Try.prog 17 #[.int .i64 n] w fun e w' => ∃ t : Tm, e = .returned (.agg #[.int .i64 t.1, .string t.2]) ∧ STm t ∧ Below w.heap.size w w' := by
  have hm0 : 0 ≤ IntKind.u64.wrap n ∧ IntKind.u64.wrap n ≤ 18446744073709551615 := by
    simp [IntKind.wrap, IntKind.bits, IntKind.signed]; omega
  have h7 : 0 ≤ IntKind.u64.wrap n / 4 % 7 ∧ IntKind.u64.wrap n / 4 % 7 < 7 := by omega
  have h4 : IntKind.u64.wrap n % 4 = 0 ∨ IntKind.u64.wrap n % 4 = 1 ∨ IntKind.u64.wrap n % 4 = 2 ∨ IntKind.u64.wrap n % 4 = 3 := by omega
  rcases h4 with h4 | h4 | h4 | h4
  · go_enter Try.func17, Try.ntmps17
    go_wp2
    exact bodyPost_ret (v := .agg #[.int .i64 (IntKind.u64.wrap n / 4 % 7 - 3), .string ⟨#[]⟩]) (by simp [results, Try.results17, go_sem]) rfl ⟨(IntKind.u64.wrap n / 4 % 7 - 3, ⟨#[]⟩), rfl, ⟨by simp only; omega, by simp⟩, by
      repeat first | exact Below.refl _ _ | refine Below.alloc ?_ (by simp) _ | refine Below.setCell ?_ (by simp) _⟩
  · go_enter Try.func17, Try.ntmps17
    go_wp2
    exact bodyPost_ret (v := .agg #[.int .i64 (IntKind.u64.wrap n / 4 % 7 - 3), .string ⟨#[107]⟩]) (by simp [results, Try.results17, go_sem]) rfl ⟨(IntKind.u64.wrap n / 4 % 7 - 3, ⟨#[107]⟩), rfl, ⟨by simp only; omega, by simp⟩, by
      repeat first | exact Below.refl _ _ | refine Below.alloc ?_ (by simp) _ | refine Below.setCell ?_ (by simp) _⟩
  · go_enter Try.func17, Try.ntmps17
    go_wp2
    exact bodyPost_ret (v := .agg #[.int .i64 (IntKind.u64.wrap n / 4 % 7 - 3), .string ⟨#[109]⟩]) (by simp [results, Try.results17, go_sem]) rfl ⟨(IntKind.u64.wrap n / 4 % 7 - 3, ⟨#[109]⟩), rfl, ⟨by simp only; omega, by simp⟩, by
      repeat first | exact Below.refl _ _ | refine Below.alloc ?_ (by simp) _ | refine Below.setCell ?_ (by simp) _⟩
  · go_enter Try.func17, Try.ntmps17
    go_wp2
    exact bodyPost_ret (v := .agg #[.int .i64 (IntKind.u64.wrap n / 4 % 7 - 3), .string ⟨#[110]⟩]) (by simp [results, Try.results17, go_sem]) rfl ⟨(IntKind.u64.wrap n / 4 % 7 - 3, ⟨#[110]⟩), rfl, ⟨by simp only; omega, by simp⟩, by
      repeat first | exact Below.refl _ _ | refine Below.alloc ?_ (by simp) _ | refine Below.setCell ?_ (by simp) _⟩
end Go.Proofs.Ytjpjedigajiomaa
