import Derived.Test.YtgjdkgkgbmbffaaDoorJ26
import Derived.Test.YtgjdkgkgbmbffaaDoorJ25
import Derived.WalkKit
import Derived.WalkSpells
import Derived.IntWalk
import Derived.Deep.Cut
import Derived.Deep.LoopGhost
import Derived.Laws.Cover1
import Derived.Lib.Hide
set_option linter.unusedVariables false
set_option linter.unusedSimpArgs false
set_option maxHeartbeats 64000000
set_option maxRecDepth 100000
namespace Go.Proofs.YtgjdkgkgbmbffaaDoor
open Go.RowKit Go.IntWalk
set_option linter.unusedVariables false
set_option linter.unusedSimpArgs false
set_option maxHeartbeats 8000000 in
theorem clone45_any {ok : Nat → Prop} {w : World} {v : Value} {l : List Lo.Sp} (hl : HRow kSp ok w v l) (hlen : l.length ≤ 1000000) :
    Calls Tryd.prog 45 #[v] w fun e w' => ∃ v', e = .returned v' ∧ OwnX kSp (fun i => ok i ∨ w.heap.size ≤ i) w' v' l ∧ (∀ k, v'.ownBlock = some k → w.heap.size ≤ k) ∧ Below w.heap.size w w' := by
  obtain ⟨a, c, rfl, hc1, hc2⟩ := hl.form
  cases a with
  | none =>
    have h0 := row_nil hl
    subst h0
    clear hl
    have heq : ∀ W, (binOp BinOp.eql 23 (.slice none 0 c) (.slice none 0 0)).run Tryd.prog W = .ok (.bool true) W := fun W => by kernel_rfl
    go_enter Tryd.func45, Tryd.ntmps45
    go_wp2
    go_ret
    exact ⟨_, rfl, OwnX.nil, (fun k hk => (by cases hk)), Below.refl _ _⟩
  | some ad =>
    have bA : Below w.heap.size w (w.alloc (.cells #[] 54 (0, 0))) := (Below.refl _ _).alloc (Nat.le_refl _) _
    have hl2 : HRow kSp (fun i => ok i ∧ i < w.heap.size) (w.alloc (.cells #[] 54 (0, 0))) (.slice (some ad) l.length c) l := (hl.wide (ok' := fun i => ok i ∧ i < w.heap.size) fun i h0 h => ⟨h0, h⟩).keep bA.size (fun i _ h => bA.block i h)
    obtain ⟨v', w', hrun, hX, hg, hmv⟩ := run_joinO kSp 23 23 Tryd.underlying23 (OwnX.emptyRow (T := kSp) (w := w)) hl2 (fun k hk => by injection hk with hk; subst hk; exact fun h => Nat.lt_irrefl _ h.2) (by show (0 + l.length) * 80 ≤ 140737488355328; omega) (by simp; unfold maxLen; omega)
    have hB := (grown_asideO2 hg)
    have HX := hide hX
    have HMV := hide hmv
    have HG := hide hg
    have hrun2 : (Builtin.append_ #[23, 23] 23 #[.slice (some ⟨w.heap.size, 0, none⟩) 0 0, .slice (some ad) l.length c]).run Tryd.prog (w.alloc (.cells #[] 54 (0, 0))) = .ok v' w' := hrun
    clear hl hl2 hX hmv hg hrun
    have heq : ∀ W, (binOp BinOp.eql 23 (.slice (some ad) l.length c) (.slice none 0 0)).run Tryd.prog W = .ok (.bool false) W := fun W => by kernel_rfl
    go_enter Tryd.func45, Tryd.ntmps45
    go_wp2_with (at_builtin; refine wpList_joinO rfl _ _ 23 rfl _ _ _ (by rfl) (by rfl) hrun2 ?_)
    go_ret
    have hze : (w.alloc (.cells #[] 54 (0, 0))).heap.size = w.heap.size + 1 := by simp
    have HW : ∀ i, (i = w.heap.size ∨ (ok i ∧ i < w.heap.size) ∨ (w.alloc (.cells #[] 54 (0, 0))).heap.size ≤ i) → ok i ∨ w.heap.size ≤ i := fun i h => by
      rcases h with h | h | h
      · exact .inr (Nat.le_of_eq h.symm)
      · exact .inl h.1
      · exact .inr (by omega)
    refine ⟨v', rfl, (HX.out.wide (fun i hi _ => HW i hi) : OwnX kSp (fun i => ok i ∨ w.heap.size ≤ i) w' v' ([] ++ l)), fun k hk => ?_, hB⟩
    rcases HMV.out with h | ⟨q, hq, hq2⟩
    · rw [h] at hk
      injection hk with hk
      have hk2 : w.heap.size = k := hk
      omega
    · rw [hq] at hk
      injection hk with hk
      subst hk
      have : (w.alloc (.cells #[] 54 (0, 0))).heap.size = w.heap.size + 1 := by simp
      have h3 : (w.alloc (.cells #[] 54 (0, 0))).heap.size ≤ q := hq2
      omega
theorem set_cell_ne {w : World} {g : Nat} {cur : Array Value} {t : TypeId} (h : w.heap[g]? = some (.cells cur t (0, 0))) {o p : Nat} (hn : o ≠ p) (u : Value) : (w.setCell ⟨g, o, none⟩ u).cell? ⟨g, p, none⟩ = w.cell? ⟨g, p, none⟩ := by
  rw [cell_of (set_in h o u) p, cell_of h p, Array.getElem?_setIfInBounds_ne hn]
theorem set_cell_eq {w : World} {g : Nat} {cur : Array Value} {t : TypeId} (h : w.heap[g]? = some (.cells cur t (0, 0))) {o : Nat} (ho : o < cur.size) (u : Value) : (w.setCell ⟨g, o, none⟩ u).cell? ⟨g, o, none⟩ = some u := by
  rw [cell_of (set_in h o u) o]
  simp [ho]
/-- n steps in block g, what they have elsewhere -/
def StepsAt (w : World) (g : Nat) (z : Nat → Prop) (n : Nat) (Q : Nat → Lo.Sp) : Prop := ∃ cur : Array Value, w.heap[g]? = some (.cells cur 54 (0, 0)) ∧ n * 6 ≤ cur.size ∧ ∀ j, j < n → ∃ y : SpV, SpAt w g (j * 6) (Q j) y ∧ HSp (fun b => b ≠ g ∧ z b) w y (Q j)
theorem SpAt.keep {w w' : World} {g o : Nat} {s : Lo.Sp} {y : SpV} (h : SpAt w g o s y) (hk : w'.heap[g]? = w.heap[g]?) : SpAt w' g o s y := by
  have e : ∀ p, w'.cell? ⟨g, p, none⟩ = w.cell? ⟨g, p, none⟩ := fun p => World.cell?_of_block hk
  obtain ⟨h0, h1, h2, h3, h4, h5⟩ := h
  exact ⟨(e _).trans h0, (e _).trans h1, (e _).trans h2, (e _).trans h3, (e _).trans h4, (e _).trans h5⟩
theorem StepsAt.lt {w : World} {g n : Nat} {z : Nat → Prop} {Q : Nat → Lo.Sp} (h : StepsAt w g z n Q) : g < w.heap.size := by
  obtain ⟨cur, h1, -, -⟩ := h
  exact lt_of h1
theorem StepsAt.under {w w' : World} {g n : Nat} {z : Nat → Prop} {Q : Nat → Lo.Sp} (h : StepsAt w g z n Q) (b : Below w.heap.size w w') : StepsAt w' g z n Q := by
  obtain ⟨cur, h1, h2, h3⟩ := h
  refine ⟨cur, (b.block _ (lt_of h1)).trans h1, h2, fun j hj => ?_⟩
  obtain ⟨y, hy, hz⟩ := h3 j hj
  exact ⟨y, hy.keep (b.block _ (lt_of h1)), hz.under b⟩
theorem HSp.other {w : World} {g o : Nat} {z : Nat → Prop} {y : SpV} {s : Lo.Sp} {u : Value} (h : HSp (fun b => b ≠ g ∧ z b) w y s) : HSp (fun b => b ≠ g ∧ z b) (w.setCell ⟨g, o, none⟩ u) y s :=
  h.keep (by simp [World.setCell]) fun i hi _ => heap_set_other _ _ _ (fun e => hi.1 e.symm)
theorem HPu.other {w : World} {g o : Nat} {z : Nat → Prop} {v : Value} {l : List Pu} {u : Value} (h : HPu (fun b => b ≠ g ∧ z b) w v l) : HPu (fun b => b ≠ g ∧ z b) (w.setCell ⟨g, o, none⟩ u) v l :=
  h.keep (by simp [World.setCell]) fun i hi _ => heap_set_other _ _ _ (fun e => hi.1 e.symm)
theorem SpAt.other {w : World} {g o : Nat} {s : Lo.Sp} {y : SpV} {cur : Array Value} (h : SpAt w g o s y) (hc : w.heap[g]? = some (.cells cur 54 (0, 0))) {p : Nat} (hp : p < o ∨ o + 6 ≤ p) (u : Value) : SpAt (w.setCell ⟨g, p, none⟩ u) g o s y := by
  obtain ⟨h0, h1, h2, h3, h4, h5⟩ := h
  exact ⟨(set_cell_ne hc (by omega) u).trans h0, (set_cell_ne hc (by omega) u).trans h1, (set_cell_ne hc (by omega) u).trans h2, (set_cell_ne hc (by omega) u).trans h3, (set_cell_ne hc (by omega) u).trans h4, (set_cell_ne hc (by omega) u).trans h5⟩
theorem StepsAt.setE {w : World} {g n : Nat} {z : Nat → Prop} {Q : Nat → Lo.Sp} (h : StepsAt w g z n Q) {j : Nat} (hj : j < n) {a : Option Addr} {m c : Nat} {E' : List Pu} (hE : HPu (fun b => b ≠ g ∧ z b) w (.slice a m c) E') :
    StepsAt (w.setCell ⟨g, j * 6 + 5, none⟩ (.slice a m c)) g z n (fun q => if q = j then ⟨(Q j).op, (Q j).k, (Q j).n, (Q j).tgt, (Q j).F, E'⟩ else Q q) := by
  obtain ⟨cur, h1, h2, h3⟩ := h
  refine ⟨_, set_in h1 _ _, by simpa using h2, fun q hq => ?_⟩
  by_cases e : q = j
  · subst e
    dsimp only
    rw [if_pos rfl]
    obtain ⟨y, ⟨c0, c1, c2, c3, c4, c5⟩, hz⟩ := h3 q hq
    refine ⟨⟨y.aF, y.nF, y.cF, a, m, c⟩, ⟨(set_cell_ne h1 (by omega) _).trans c0, (set_cell_ne h1 (by omega) _).trans c1, (set_cell_ne h1 (by omega) _).trans c2, (set_cell_ne h1 (by omega) _).trans c3, (set_cell_ne h1 (by omega) _).trans c4, set_cell_eq h1 (by omega) _⟩, ⟨hz.F.other, hE.other⟩⟩
  · dsimp only
    rw [if_neg e]
    obtain ⟨y, hy, hz⟩ := h3 q hq
    exact ⟨y, hy.other h1 (by omega) _, hz.other⟩
theorem StepsAt.setF {w : World} {g n : Nat} {z : Nat → Prop} {Q : Nat → Lo.Sp} (h : StepsAt w g z n Q) {j : Nat} (hj : j < n) {a : Option Addr} {m c : Nat} {F' : List Pu} (hF : HPu (fun b => b ≠ g ∧ z b) w (.slice a m c) F') :
    StepsAt (w.setCell ⟨g, j * 6 + 4, none⟩ (.slice a m c)) g z n (fun q => if q = j then ⟨(Q j).op, (Q j).k, (Q j).n, (Q j).tgt, F', (Q j).E⟩ else Q q) := by
  obtain ⟨cur, h1, h2, h3⟩ := h
  refine ⟨_, set_in h1 _ _, by simpa using h2, fun q hq => ?_⟩
  by_cases e : q = j
  · subst e
    dsimp only
    rw [if_pos rfl]
    obtain ⟨y, ⟨c0, c1, c2, c3, c4, c5⟩, hz⟩ := h3 q hq
    refine ⟨⟨a, m, c, y.aE, y.nE, y.cE⟩, ⟨(set_cell_ne h1 (by omega) _).trans c0, (set_cell_ne h1 (by omega) _).trans c1, (set_cell_ne h1 (by omega) _).trans c2, (set_cell_ne h1 (by omega) _).trans c3, set_cell_eq h1 (by omega) _, (set_cell_ne h1 (by omega) _).trans c5⟩, ⟨hF.other, hz.E.other⟩⟩
  · dsimp only
    rw [if_neg e]
    obtain ⟨y, hy, hz⟩ := h3 q hq
    exact ⟨y, hy.other h1 (by omega) _, hz.other⟩
theorem StepsAt.of {ok : Nat → Prop} {z : Nat → Prop} (hz : ∀ i, ok i → z i) {w : World} {v : Value} {l : List Lo.Sp} (h : OwnX kSp ok w v l) (hl : 0 < l.length) : ∃ g c, v = .slice (some ⟨g, 0, none⟩) l.length c ∧ l.length ≤ c ∧ c ≤ maxLen ∧ StepsAt w g z l.length (fun j => l.getD j ⟨0, 0, 0, 0, [], []⟩) := by
  obtain ⟨D, h1, h2, h3⟩ := h
  obtain ⟨g, cap, hv, q1, q2, q3, q4, q5⟩ := owns_pos h1 hl
  have h1b := h1.2
  rcases h1b with ⟨e0, e1⟩ | ⟨g', cap', cur, e1, e2, e3, e4, e5, e6, e7⟩
  · omega
  · subst e1
    refine ⟨g', cap', rfl, e4, e5, cur, e3, by rw [e6]; exact Nat.mul_le_mul_right 6 e4, fun j hj => ?_⟩
    obtain ⟨y, ey, hy⟩ := h3 j hj
    have hq : l.getD j ⟨0, 0, 0, 0, [], []⟩ = l[j] := by rw [List.getD_eq_getElem?_getD, List.getElem?_eq_getElem hj]; rfl
    show ∃ y, SpAt w g' (j * 6) (l.getD j ⟨0, 0, 0, 0, [], []⟩) y ∧ HSp (fun b => b ≠ g' ∧ z b) w y (l.getD j ⟨0, 0, 0, 0, [], []⟩)
    rw [hq]
    have hg : ∀ i, i < 6 → w.cell? ⟨g', j * 6 + i, none⟩ = (D j)[i]? := fun i hi => by
      have e8 := flat_get (k := 6) l.length (fun i hi => kSp.len (h3 i hi)) j i hj hi
      have e9 : cur.toList[j * 6 + i]? = (flat D l.length)[j * 6 + i]? := by
        rw [← e7, List.getElem?_take_of_lt]
        show j * 6 + i < l.length * 6
        omega
      rw [cell_of e3, ← Array.getElem?_toList, e9, e8]
    rw [ey] at hg
    refine ⟨y, ⟨hg 0 (by decide), hg 1 (by decide), hg 2 (by decide), hg 3 (by decide), hg 4 (by decide), hg 5 (by decide)⟩, hy.wide fun i hi _ => ?_⟩
    have := hi.2
    exact ⟨fun e => this (by rw [e]; rfl), hz _ hi.1⟩
theorem StepsAt.row {w : World} {g n c : Nat} {z : Nat → Prop} {Q : Nat → Lo.Sp} {l : List Lo.Sp} (h : StepsAt w g z n Q) (hn : n = l.length) (hQ : ∀ j (h : j < l.length), Q j = l[j]) (h1 : n ≤ c) (h2 : c ≤ maxLen) (hgz : z g) : HSps z w (.slice (some ⟨g, 0, none⟩) n c) l := by
  classical
  obtain ⟨cur, e1, e2, e3⟩ := h
  subst hn
  obtain ⟨f, hf⟩ : ∃ f : Nat → SpV, ∀ j (hj : j < l.length), SpAt w g (j * 6) l[j] (f j) ∧ HSp (fun b => b ≠ g ∧ z b) w (f j) l[j] := by
    have e4 : ∀ j (hj : j < l.length), ∃ y, SpAt w g (j * 6) l[j] y ∧ HSp (fun b => b ≠ g ∧ z b) w y l[j] := fun j hj => by
      rw [← hQ j hj]
      exact e3 j hj
    refine ⟨fun j => if hj : j < l.length then Classical.choose (e4 j hj) else ⟨none, 0, 0, none, 0, 0⟩, fun j hj => ?_⟩
    have := Classical.choose_spec (e4 j hj)
    simpa only [dif_pos hj] using this
  refine ⟨fun j => scs (l.getD j ⟨0, 0, 0, 0, [], []⟩) (f j), ⟨_, _, rfl, h1, h2, fun h0 => ⟨g, 0, rfl, hgz, lt_of e1, fun j hj => ⟨rfl, fun i hi => ?_⟩⟩⟩, fun j hj => ⟨f j, ?_, (hf j hj).2.wide fun i hi _ => hi.2⟩⟩
  · have hq : l.getD j ⟨0, 0, 0, 0, [], []⟩ = l[j] := by rw [List.getD_eq_getElem?_getD, List.getElem?_eq_getElem hj]; rfl
    show w.cell? ⟨g, 0 + j * 6 + i, none⟩ = (scs (l.getD j ⟨0, 0, 0, 0, [], []⟩) (f j))[i]?
    rw [hq]
    obtain ⟨c0, c1, c2, c3, c4, c5⟩ := (hf j hj).1
    rw [Nat.zero_add]
    have hi2 : i = 0 ∨ i = 1 ∨ i = 2 ∨ i = 3 ∨ i = 4 ∨ i = 5 := by omega
    rcases hi2 with rfl | rfl | rfl | rfl | rfl | rfl
    · exact c0
    · exact c1
    · exact c2
    · exact c3
    · exact c4
    · exact c5
  · show scs (l.getD j ⟨0, 0, 0, 0, [], []⟩) (f j) = scs l[j] (f j)
    rw [List.getD_eq_getElem?_getD, List.getElem?_eq_getElem hj]
    rfl
theorem StepsAt.sameE {w : World} {g n : Nat} {z : Nat → Prop} {Q : Nat → Lo.Sp} (h : StepsAt w g z n Q) {j : Nat} (hj : j < n) {a : Option Addr} {m c : Nat} (hE : HPu (fun b => b ≠ g ∧ z b) w (.slice a m c) (Q j).E) : StepsAt (w.setCell ⟨g, j * 6 + 5, none⟩ (.slice a m c)) g z n Q := by
  have := h.setE hj hE
  have e : (fun q => if q = j then ⟨(Q j).op, (Q j).k, (Q j).n, (Q j).tgt, (Q j).F, (Q j).E⟩ else Q q) = Q := by
    funext q
    by_cases e : q = j
    · subst e; exact if_pos rfl
    · exact if_neg e
  rw [e] at this
  exact this
end Go.Proofs.YtgjdkgkgbmbffaaDoor
