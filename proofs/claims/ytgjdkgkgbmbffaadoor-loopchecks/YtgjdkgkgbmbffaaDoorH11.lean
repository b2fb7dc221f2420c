import Derived.Test.YtgjdkgkgbmbffaaDoorH10
set_option linter.unusedVariables false
set_option linter.unusedSimpArgs false
set_option maxHeartbeats 64000000
set_option maxRecDepth 100000
namespace Go.Proofs.YtgjdkgkgbmbffaaDoor
open Go.RowKit Go.IntWalk
set_option linter.unusedVariables false
set_option linter.unusedSimpArgs false
/-- v is a row of the call's own that holds l; it and what it holds lie in blocks that 'ok' lets by -/
def OwnX {α : Type} (T : Kind α) (ok : Nat → Prop) (w : World) (v : Value) (l : List α) : Prop :=
  ∃ D, w.ownsRow 0 T.ty T.k v l.length (flat D l.length) ∧ (∀ k, v.ownBlock = some k → ok k) ∧ ∀ j (h : j < l.length), T.E (fun i => ok i ∧ some i ≠ v.ownBlock) w (D j) l[j]
theorem OwnX.nil {α : Type} {T : Kind α} {ok : Nat → Prop} {w : World} : OwnX T ok w (.slice none 0 0) [] :=
  ⟨fun _ => [], World.ownsRow_nil _ _ _ _, fun k hk => (by cases hk), fun j h => absurd h (Nat.not_lt_zero _)⟩
theorem OwnX.form {α : Type} {T : Kind α} {ok : Nat → Prop} {w : World} {v : Value} {l : List α} (h : OwnX T ok w v l) : ∃ a c, v = .slice a l.length c ∧ l.length ≤ c ∧ c ≤ maxLen := by
  obtain ⟨D, h1, h2⟩ := h
  rcases h1.2 with ⟨rfl, h0⟩ | ⟨g, cap, cur, rfl, hb, hg, hnc, hcm, _⟩
  · exact ⟨none, 0, by rw [h0], by omega, by unfold maxLen; omega⟩
  · exact ⟨_, _, rfl, hnc, hcm⟩
theorem OwnX.keep {α : Type} {T : Kind α} {ok : Nat → Prop} {w w' : World} {v : Value} {l : List α} (h : OwnX T ok w v l) (hs : w.heap.size ≤ w'.heap.size) (hk : ∀ i, ok i → i < w.heap.size → w'.heap[i]? = w.heap[i]?) : OwnX T ok w' v l := by
  obtain ⟨D, h1, h2, h3⟩ := h
  refine ⟨D, ⟨h1.1, ?_⟩, h2, fun j hj => T.keep (h3 j hj) hs fun i hi hl => hk i hi.1 hl⟩
  rcases h1.2 with h0 | ⟨g, cap, cur, rfl, hb, hg, hr⟩
  · exact .inl h0
  · exact .inr ⟨g, cap, cur, rfl, hb, (hk g (h2 g rfl) (lt_of hg)).trans hg, hr⟩
theorem OwnX.wide {α : Type} {T : Kind α} {ok ok' : Nat → Prop} {w : World} {v : Value} {l : List α} (h : OwnX T ok w v l) (hk : ∀ i, ok i → i < w.heap.size → ok' i) : OwnX T ok' w v l := by
  obtain ⟨D, h1, h2, h3⟩ := h
  exact ⟨D, h1, fun k hq => hk k (h2 k hq) (World.ownsRow.lt h1 k hq).2, fun j hj => T.wide (h3 j hj) fun i hi hl => ⟨hk i hi.1 hl, hi.2⟩⟩
theorem OwnX.under {α : Type} {T : Kind α} {ok : Nat → Prop} {w w' : World} {v : Value} {l : List α} (h : OwnX T ok w v l) (hb : Below w.heap.size w w') : OwnX T ok w' v l := h.keep hb.size fun i _ hl => hb.block i hl
theorem OwnX.set {α : Type} {T : Kind α} {ok : Nat → Prop} {w : World} {v : Value} {l : List α} (h : OwnX T ok w v l) {p : Addr} (hp : ¬ ok p.block) (u : Value) : OwnX T ok (w.setCell p u) v l :=
  h.keep (by simp [World.setCell]) fun i hi hl => Below.heap_setCell _ _ _ _ (fun e => hp (e ▸ hi))
theorem OwnX.row {α : Type} {T : Kind α} {ok : Nat → Prop} {w : World} {v : Value} {l : List α} (h : OwnX T ok w v l) : HRow T ok w v l := by
  obtain ⟨D, h1, h2, h3⟩ := h
  obtain ⟨ao, cap, hv, q1, q2, q3⟩ := owns_sl h1 (fun i hi => T.len (h3 i hi))
  refine ⟨D, ⟨ao, cap, hv, q1, q2, fun hn => ?_⟩, fun j hj => T.wide (h3 j hj) fun i hi _ => hi.1⟩
  obtain ⟨b, o, ha, _, hb, hc⟩ := q3 hn
  refine ⟨b, o, ha, ?_, hb, hc⟩
  obtain ⟨g, cap', hv', _⟩ := owns_pos h1 hn
  rw [hv] at hv'
  injection hv' with e1 e2 e3
  rw [ha] at e1
  injection e1 with e1
  injection e1 with e4 e5 e6
  exact h2 b (by rw [hv, ha, e5]; simp [Value.ownBlock])
/-- append of one thing to a row of the call's own: the thing lies in new memory -/
theorem run_moreX {α : Type} (T : Kind α) {w : World} (t tt ty : TypeId) (ht : Tryd.prog.underlying t = some (.slice T.ty))
    (N : Nat) (ok : Nat → Prop) (v : Value) (l : List α) (hown : OwnX T ok w v l) (cs : List Value) (y : α) (hE : T.E (fun i => N ≤ i) w cs y)
    (hN : ∀ i, ok i → i < N) (hNw : N ≤ w.heap.size) (hM : (l.length + 1) * T.bytes ≤ 140737488355328) (hm : l.length + 1 ≤ maxLen) :
    ∃ v' w', (Builtin.append_ #[t, t] ty #[v, .slice (some ⟨w.heap.size, 0, none⟩) 1 1]).run Tryd.prog (w.alloc (.cells cs.toArray tt (0, 0))) = .ok v' w' ∧ OwnX T (fun i => ok i ∨ N ≤ i) w' v' (l ++ [y]) ∧ (w.alloc (.cells cs.toArray tt (0, 0))).grownBy w' v.ownBlock := by
  obtain ⟨i0, hi, hz0, hz1, hz2⟩ := info_parts T.info
  have hown1 := hown.under ((Below.refl _ w).alloc (Nat.le_refl _) (.cells cs.toArray tt (0, 0)))
  obtain ⟨D, hrow, hvb, hD⟩ := hown1
  have hl := T.len hE
  obtain ⟨v', w', hrun, hrow', hgrow, hmv⟩ := run_push (P := Tryd.prog) (w.alloc (.cells cs.toArray tt (0, 0))) 0 t ty T.ty i0 T.zero T.k T.bytes ht hi hz0 hz1 hz2 T.zs T.pos v l.length _ hrow ⟨w.heap.size, 0, none⟩ 1 1 cs (by simp [hl]) (cells_new w cs tt) (T.one hE) hm hM (by simp)
  have hmv' : v'.ownBlock = v.ownBlock ∨ ∃ k, v'.ownBlock = some k ∧ w.heap.size + 1 ≤ k := by
    rcases hmv with h | ⟨k, h1, h2⟩
    · exact .inl h
    · exact .inr ⟨k, h1, by simpa using h2⟩
  have hgk : ∀ k, some k ≠ v.ownBlock → k < (w.alloc (.cells cs.toArray tt (0, 0))).heap.size → w'.heap[k]? = (w.alloc (.cells cs.toArray tt (0, 0))).heap[k]? := fun k hk hl => hgrow.block k hl hk
  have hoff : ∀ i, some i ≠ v.ownBlock → i < w.heap.size + 1 → some i ≠ v'.ownBlock := fun i h1 h2 e => by
    rcases hmv' with h | ⟨k, hk, hz⟩
    · exact h1 (e.trans h)
    · rw [hk] at e
      injection e with e
      omega
  refine ⟨v', w', hrun, ⟨fun q => if q = l.length then cs else D q, ?_, ?_, fun j hj => ?_⟩, hgrow⟩
  · have e : flat (fun q => if q = l.length then cs else D q) (l.length + 1) = flat D l.length ++ cs := by
      rw [flat, flat_congr (D := D) l.length (fun q hq => by rw [if_neg (by omega)])]
      simp
    rw [List.length_append, List.length_singleton, e]
    exact hrow'
  · intro k hk
    rcases hmv' with h | ⟨q, hq, hz⟩
    · exact .inl (hvb k (h.symm.trans hk))
    · rw [hq] at hk
      injection hk with hk
      exact .inr (by omega)
  · by_cases e : j = l.length
    · subst e
      simp only [if_true, List.getElem_append_right (Nat.le_refl _), Nat.sub_self, List.getElem_cons_zero]
      have g0 := T.keep (w' := w.alloc (.cells cs.toArray tt (0, 0))) hE (by simp) fun i _ hl => Below.heap_alloc _ _ _ hl
      have g1 := T.wide (ok' := fun k => N ≤ k ∧ some k ≠ v.ownBlock ∧ k < w.heap.size + 1) g0 (fun k hk hl => ⟨hk, fun e => by have := hN k (hvb k e.symm); omega, by simpa using hl⟩)
      have g2 := T.keep g1 hgrow.size (fun k hk hl => hgk k hk.2.1 hl)
      exact T.wide g2 (fun k hk _ => ⟨.inr hk.1, hoff k hk.2.1 hk.2.2⟩)
    · have hjl : j < l.length := by simp at hj; omega
      simp only [if_neg e, List.getElem_append_left hjl]
      have g1 := T.wide (ok' := fun k => ok k ∧ some k ≠ v.ownBlock ∧ k < w.heap.size + 1) (hD j hjl) (fun k hk hl => ⟨hk.1, hk.2, by simpa using hl⟩)
      have g2 := T.keep g1 hgrow.size (fun k hk hl => hgk k hk.2.1 hl)
      exact T.wide g2 (fun k hk _ => ⟨.inl hk.1, hoff k hk.2.1 hk.2.2⟩)
/-- what an append to a row of 'ok' blocks leaves as it was -/
theorem grown_other {ok : Nat → Prop} {w W' : World} {v : Value} {o : Obj} (hg : (w.alloc o).grownBy W' v.ownBlock) (hv : ∀ k, v.ownBlock = some k → ok k) : w.heap.size ≤ W'.heap.size ∧ ∀ k, k < w.heap.size → ¬ ok k → W'.heap[k]? = w.heap[k]? := by
  refine ⟨Nat.le_trans (by simp) hg.size, fun k hk hn => ?_⟩
  rw [hg.block k (by simp; omega) (fun e => hn (hv k e.symm))]
  exact Below.heap_alloc _ _ _ hk
theorem grown_aside {ok : Nat → Prop} {S : List Nat} {B : Nat} {w W' : World} {v : Value} {o : Obj} (hg : (w.alloc o).grownBy W' v.ownBlock) (hv : ∀ k, v.ownBlock = some k → ok k) (hok : ∀ i, ok i → B ≤ i) (hB : B ≤ w.heap.size) : Aside S B w W' :=
  ⟨hg.os, hg.tape, hg.output, (grown_other hg hv).1, fun k hk _ => (grown_other hg hv).2 k (by omega) (fun h => by have := hok k h; omega)⟩
end Go.Proofs.YtgjdkgkgbmbffaaDoor
