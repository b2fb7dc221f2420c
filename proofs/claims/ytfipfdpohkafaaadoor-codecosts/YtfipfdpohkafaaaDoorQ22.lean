import Derived.Test.YtfipfdpohkafaaaDoorQ21
set_option linter.unusedVariables false
set_option linter.unusedSimpArgs false
set_option maxHeartbeats 64000000
set_option maxRecDepth 100000
namespace Go.Proofs.YtfipfdpohkafaaaDoor
open Go.RowKit Go.IntWalk
set_option linter.unusedVariables false
set_option linter.unusedSimpArgs false
/-- v is a row of the call's own that holds l; it and what it holds lie in blocks that 'ok' lets by -/
def OwnX {α : Type} (T : Kind α) (ok : Nat → Prop) (w : World) (v : Value) (l : List α) : Prop :=
  ∃ D, w.ownsRow 0 T.ty T.k v l.length (flat D l.length) ∧ (∀ k, v.ownBlock = some k → ok k) ∧ ∀ j (h : j < l.length), T.E (fun i => ok i ∧ some i ≠ v.ownBlock) w (D j) l[j]
theorem OwnX.nil {α : Type} {T : Kind α} {ok : Nat → Prop} {w : World} : OwnX T ok w (.slice none 0 0) [] :=
  ⟨fun _ => [], World.ownsRow_nil _ _ _ _, fun k hk => (by cases hk), fun j h => absurd h (Nat.not_lt_zero _)⟩
theorem OwnX.form {α : Type} {T : Kind α} {ok : Nat → Prop} {w : World} {v : Value} {l : List α} (h : OwnX T ok w v l) : ∃ a c, v = .slice a l.length c ∧ l.length ≤ c ∧ c ≤ maxLen := by
  obtain ⟨D, h1, h2⟩ := h
  rcases h1.2 with ⟨rfl, h0⟩ | ⟨g, cap, cur, rfl, hb, hg, hnc, hcm, _⟩
  · exact ⟨none, 0, by rw [h0], by omega, by unfold maxLen; omega⟩
  · exact ⟨_, _, rfl, hnc, hcm⟩
theorem OwnX.keep {α : Type} {T : Kind α} {ok : Nat → Prop} {w w' : World} {v : Value} {l : List α} (h : OwnX T ok w v l) (hs : w.heap.size ≤ w'.heap.size) (hk : ∀ i, ok i → i < w.heap.size → w'.heap[i]? = w.heap[i]?) : OwnX T ok w' v l := by
  obtain ⟨D, h1, h2, h3⟩ := h
  refine ⟨D, ⟨h1.1, ?_⟩, h2, fun j hj => T.keep (h3 j hj) hs fun i hi hl => hk i hi.1 hl⟩
  rcases h1.2 with h0 | ⟨g, cap, cur, rfl, hb, hg, hr⟩
  · exact .inl h0
  · exact .inr ⟨g, cap, cur, rfl, hb, (hk g (h2 g rfl) (lt_of hg)).trans hg, hr⟩
theorem OwnX.wide {α : Type} {T : Kind α} {ok ok' : Nat → Prop} {w : World} {v : Value} {l : List α} (h : OwnX T ok w v l) (hk : ∀ i, ok i → i < w.heap.size → ok' i) : OwnX T ok' w v l := by
  obtain ⟨D, h1, h2, h3⟩ := h
  exact ⟨D, h1, fun k hq => hk k (h2 k hq) (World.ownsRow.lt h1 k hq).2, fun j hj => T.wide (h3 j hj) fun i hi hl => ⟨hk i hi.1 hl, hi.2⟩⟩
theorem OwnX.row {α : Type} {T : Kind α} {ok : Nat → Prop} {w : World} {v : Value} {l : List α} (h : OwnX T ok w v l) : HRow T ok w v l := by
  obtain ⟨D, h1, h2, h3⟩ := h
  obtain ⟨ao, cap, hv, q1, q2, q3⟩ := owns_sl h1 (fun i hi => T.len (h3 i hi))
  refine ⟨D, ⟨ao, cap, hv, q1, q2, fun hn => ?_⟩, fun j hj => T.wide (h3 j hj) fun i hi _ => hi.1⟩
  obtain ⟨b, o, ha, _, hb, hc⟩ := q3 hn
  refine ⟨b, o, ha, ?_, hb, hc⟩
  obtain ⟨g, cap', hv', _⟩ := owns_pos h1 hn
  rw [hv] at hv'
  injection hv' with e1 e2 e3
  rw [ha] at e1
  injection e1 with e1
  injection e1 with e4 e5 e6
  exact h2 b (by rw [hv, ha, e5]; simp [Value.ownBlock])
end Go.Proofs.YtfipfdpohkafaaaDoor
