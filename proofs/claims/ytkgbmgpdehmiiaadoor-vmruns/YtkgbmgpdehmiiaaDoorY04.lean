import Derived.Test.YtkgbmgpdehmiiaaDoorY03
set_option linter.unusedVariables false
set_option linter.unusedSimpArgs false
set_option maxHeartbeats 64000000
set_option maxRecDepth 100000
namespace Go.Proofs.YtkgbmgpdehmiiaaDoor
open Go.RowKit Go.IntWalk
set_option linter.unusedVariables false
set_option linter.unusedSimpArgs false
/-- a kind of thing that lies in rows: its type, its cells, its bytes, its zero; what its cells say -/
structure Kind (α : Type) where
  ty : TypeId
  k : Nat
  bytes : Nat
  zero : Value
  E : (Nat → Prop) → World → List Value → α → Prop
  pos : 0 < k
  zs : zero.cells.size = k
  info : (Tryd.prog.info? ty).map (fun i => (i.zero, i.size, i.bytes)) = some (some zero, k, bytes)
  len : ∀ {ok w cs a}, E ok w cs a → cs.length = k
  one : ∀ {ok w cs a}, E ok w cs a → ∀ u ∈ cs, u.oneCell' = true
  keep : ∀ {ok w w' cs a}, E ok w cs a → w.heap.size ≤ w'.heap.size → (∀ i, ok i → i < w.heap.size → w'.heap[i]? = w.heap[i]?) → E ok w' cs a
  wide : ∀ {ok ok' w cs a}, E ok w cs a → (∀ i, ok i → i < w.heap.size → ok' i) → E ok' w cs a
/-- v is a row of the call's own, from block B on, that holds l -/
def OwnL {α : Type} (T : Kind α) (B : Nat) (w : World) (v : Value) (l : List α) : Prop :=
  ∃ D, w.ownsRow B T.ty T.k v l.length (flat D l.length) ∧ ∀ j (h : j < l.length), T.E (Off B v) w (D j) l[j]
/-- v is a row that holds l -/
def HRow {α : Type} (T : Kind α) (ok : Nat → Prop) (w : World) (v : Value) (l : List α) : Prop :=
  ∃ C, Sl ok T.k w v l.length C ∧ ∀ j (h : j < l.length), T.E ok w (C j) l[j]
theorem OwnL.nil {α : Type} {T : Kind α} {B : Nat} {w : World} : OwnL T B w (.slice none 0 0) [] :=
  ⟨fun _ => [], World.ownsRow_nil _ _ _ _, fun j h => absurd h (Nat.not_lt_zero _)⟩
theorem OwnL.lt {α : Type} {T : Kind α} {B : Nat} {w : World} {v : Value} {l : List α} (h : OwnL T B w v l) : ∀ k, v.ownBlock = some k → B ≤ k ∧ k < w.heap.size := by
  obtain ⟨D, h1, h2⟩ := h
  exact fun k hk => World.ownsRow.lt h1 k hk
theorem OwnL.form {α : Type} {T : Kind α} {B : Nat} {w : World} {v : Value} {l : List α} (h : OwnL T B w v l) : ∃ a c, v = .slice a l.length c ∧ l.length ≤ c ∧ c ≤ maxLen := by
  obtain ⟨D, h1, h2⟩ := h
  rcases h1.2 with ⟨rfl, h0⟩ | ⟨g, cap, cur, rfl, hb, hg, hnc, hcm, _⟩
  · exact ⟨none, 0, by rw [h0], by omega, by unfold maxLen; omega⟩
  · exact ⟨_, _, rfl, hnc, hcm⟩
theorem OwnL.keep {α : Type} {T : Kind α} {B : Nat} {w w' : World} {v : Value} {l : List α} (h : OwnL T B w v l) (hs : w.heap.size ≤ w'.heap.size) (hk : ∀ i, B ≤ i → i < w.heap.size → w'.heap[i]? = w.heap[i]?) : OwnL T B w' v l := by
  obtain ⟨D, h1, h2⟩ := h
  refine ⟨D, ⟨h1.1, ?_⟩, fun j hj => T.keep (h2 j hj) hs fun i hi hl => hk i hi.1 hl⟩
  rcases h1.2 with h0 | ⟨g, cap, cur, hv, hb, hg, hr⟩
  · exact .inl h0
  · exact .inr ⟨g, cap, cur, hv, hb, (hk g hb (lt_of hg)).trans hg, hr⟩
theorem OwnL.below {α : Type} {T : Kind α} {B : Nat} {w w' : World} {v : Value} {l : List α} (h : OwnL T B w v l) (hb : Below w.heap.size w w') : OwnL T B w' v l := h.keep hb.size fun i _ hl => hb.block i hl
theorem OwnL.set {α : Type} {T : Kind α} {B : Nat} {w : World} {v : Value} {l : List α} (h : OwnL T B w v l) {p : Addr} (hp : p.block < B) (u : Value) : OwnL T B (w.setCell p u) v l :=
  h.keep (by simp [World.setCell]) fun i hi hl => Below.heap_setCell _ _ _ _ (fun e => by omega)
theorem OwnL.row {α : Type} {T : Kind α} {B : Nat} {w : World} {v : Value} {l : List α} (h : OwnL T B w v l) : HRow T (fun i => B ≤ i) w v l := by
  obtain ⟨D, h1, h2⟩ := h
  exact ⟨D, owns_sl h1 (fun i hi => T.len (h2 i hi)), fun j hj => T.wide (h2 j hj) fun i hi _ => hi.1⟩
theorem HRow.form {α : Type} {T : Kind α} {ok : Nat → Prop} {w : World} {v : Value} {l : List α} (h : HRow T ok w v l) : ∃ a c, v = .slice a l.length c ∧ l.length ≤ c ∧ c ≤ maxLen := by
  obtain ⟨C, ⟨a, c, hv, h1, h2, _⟩, _⟩ := h
  exact ⟨a, c, hv, h1, h2⟩
theorem HRow.keep {α : Type} {T : Kind α} {ok : Nat → Prop} {w w' : World} {v : Value} {l : List α} (h : HRow T ok w v l) (hs : w.heap.size ≤ w'.heap.size) (hk : ∀ i, ok i → i < w.heap.size → w'.heap[i]? = w.heap[i]?) : HRow T ok w' v l := by
  obtain ⟨C, h1, h2⟩ := h
  exact ⟨C, h1.keep hs hk, fun j hj => T.keep (h2 j hj) hs hk⟩
theorem HRow.wide {α : Type} {T : Kind α} {ok ok' : Nat → Prop} {w : World} {v : Value} {l : List α} (h : HRow T ok w v l) (hk : ∀ i, ok i → i < w.heap.size → ok' i) : HRow T ok' w v l := by
  obtain ⟨C, h1, h2⟩ := h
  exact ⟨C, h1.wide hk, fun j hj => T.wide (h2 j hj) hk⟩
theorem cells_new (w : World) (cs : List Value) (t : TypeId) : ∀ j u, cs[j]? = some u → (w.alloc (.cells cs.toArray t (0, 0))).cell? ((⟨w.heap.size, 0, none⟩ : Addr).add j) = some u := by
  intro j u hj
  have hn := heap_new w (.cells cs.toArray t (0, 0))
  have adds : (⟨w.heap.size, 0, none⟩ : Addr).add j = ⟨w.heap.size, j, none⟩ := by unfold Addr.add; split <;> simp_all
  rw [adds, cell_of hn]
  simpa using hj
/-- append of one thing to a row of the call's own: the thing lies in new memory -/
theorem wpList_more {α : Type} (T : Kind α) {w : World} {ops : Array Oper} {rest : List Oper} {o : Oper} {a : Act} {Q : Exit → Act → World → Prop} (hgd : o.guard = none) (s x : Operand) (t tt : TypeId)
    (ho : o.op = .call { callee := .builtin .append, args := #[s, x], argTypes := #[t, t] }) (ht : Tryd.prog.underlying t = some (.slice T.ty))
    (B N : Nat) (v : Value) (l : List α) (hs : a.eval s = v) (hown : OwnL T B w v l) (cs : List Value) (y : α) (hE : T.E (fun i => N ≤ i) w cs y) (hx : a.eval x = .slice (some ⟨w.heap.size, 0, none⟩) 1 1)
    (hN : ∀ k, v.ownBlock = some k → k < N) (hBN : B ≤ N) (hBw : B ≤ w.heap.size) (hM : (l.length + 1) * T.bytes ≤ 140737488355328) (hm : l.length + 1 ≤ maxLen)
    (h : ∀ v' w', OwnL T B w' v' (l ++ [y]) → Below B w w' → (w.alloc (.cells cs.toArray tt (0, 0))).grownBy w' v.ownBlock → Moved (w.alloc (.cells cs.toArray tt (0, 0))) v v' → wpList Tryd.prog ops Q rest (a.put o.dst v') w') :
    wpList Tryd.prog ops Q (o :: rest) a (w.alloc (.cells cs.toArray tt (0, 0))) := by
  obtain ⟨i0, hi, hz0, hz1, hz2⟩ := info_parts T.info
  have hown1 := hown.below ((Below.refl _ w).alloc (Nat.le_refl _) (.cells cs.toArray tt (0, 0)))
  obtain ⟨D, hrow, hD⟩ := hown1
  have hl := T.len hE
  refine wpList_push hgd s x t ho B T.ty i0 T.zero T.k T.bytes ht hi hz0 hz1 hz2 T.zs T.pos v l.length _ hs hrow ⟨w.heap.size, 0, none⟩ 1 1 cs hx (by simp [hl]) (cells_new w cs tt) (T.one hE) hm hM (by simp; omega) ?_
  intro v' w' hrow' hgrow hmv
  have hmv' : Moved (w.alloc (.cells cs.toArray tt (0, 0))) v v' := hmv
  have hgk := grown_keep (B := B) (v := v) hgrow
  refine h v' w' ⟨fun q => if q = l.length then cs else D q, ?_, fun j hj => ?_⟩ (Below.push ((Below.refl B w).alloc hBw _) (by simp; omega) hrow hgrow) hgrow hmv'
  · have e : flat (fun q => if q = l.length then cs else D q) (l.length + 1) = flat D l.length ++ cs := by
      rw [flat, flat_congr (D := D) l.length (fun q hq => by rw [if_neg (by omega)])]
      simp
    rw [List.length_append, List.length_singleton, e]
    exact hrow'
  · by_cases e : j = l.length
    · subst e
      simp only [if_true, List.getElem_append_right (Nat.le_refl _), Nat.sub_self, List.getElem_cons_zero]
      have g0 := T.keep (w' := w.alloc (.cells cs.toArray tt (0, 0))) hE (by simp) fun i _ hl => Below.heap_alloc _ _ _ hl
      have g1 := T.wide (ok' := fun k => Off B v k ∧ k < (w.alloc (.cells cs.toArray tt (0, 0))).heap.size) g0 (fun k hk hl => ⟨⟨by omega, fun e => by have := hN k e.symm; omega⟩, hl⟩)
      have g2 := T.keep g1 hgrow.size (fun k hk hl => hgk k hk.1 hl)
      exact T.wide g2 (fun k hk _ => Off.moved hmv' hk.1 hk.2)
    · have hjl : j < l.length := by simp at hj; omega
      simp only [if_neg e, List.getElem_append_left hjl]
      have g1 := T.wide (ok' := fun k => Off B v k ∧ k < (w.alloc (.cells cs.toArray tt (0, 0))).heap.size) (hD j hjl) (fun k hk hl => ⟨hk, hl⟩)
      have g2 := T.keep g1 hgrow.size (fun k hk hl => hgk k hk.1 hl)
      exact T.wide g2 (fun k hk _ => Off.moved hmv' hk.1 hk.2)
/-! ### The kinds -/
theorem HTerms.slice {ok : Nat → Prop} {w : World} {v : Value} {l : List Tm} (h : HTerms ok w v l) : ∃ a n c, v = .slice a n c := by
  obtain ⟨C, ⟨a, c, hv, _⟩, _⟩ := h
  exact ⟨a, _, c, hv⟩
end Go.Proofs.YtkgbmgpdehmiiaaDoor
