
/-
  DERIVED. Two operations that may come up; append of a thing that lies anywhere; the last expression of a row put anew.
-/
import Derived.Test.YtfhjejmadhcmnaaDoorOwn2
import Derived.Test.YtfhjejmadhcmnaaDoorLate
namespace Go.Proofs.YtfhjejmadhcmnaaDoor
open Go.RowKit Go.IntWalk
set_option linter.unusedVariables false
set_option linter.unusedSimpArgs false
set_option maxRecDepth 100000

/-- two may come up -/
theorem wpAnyL_two {P : Program} {ops : Array Oper} {Q : Exit → Act → World → Prop} {md : Region.Mode} {S : World → Prop} {late : Nat → Bool} {i j : Nat} {oi oj : Oper} {fuel : Nat} {listed : Array Bool} {a : Act} {w : World} (hoi : ops[i]? = some oi) (hoj : ops[j]? = some oj) (hr : Region.ready md ops listed = [i, j])
    (hwi : Region.wanted oi (yielded ops a.tmps) = true) (hwj : Region.wanted oj (yielded ops a.tmps) = true)
    (h1 : ∀ K' : Act → World → Prop, Shut (∀ a w, (late i = false → S w) → wpAnyL P md ops Q S late fuel (listed.setIfInBounds i true) a w → K' a w) → Oper.wp P oi a w K' Q)
    (h2 : ∀ K' : Act → World → Prop, Shut (∀ a w, (late j = false → S w) → wpAnyL P md ops Q S late fuel (listed.setIfInBounds j true) a w → K' a w) → Oper.wp P oj a w K' Q) : wpAnyL P md ops Q S late (fuel + 1) listed a w := by
  refine ⟨fun h0 => (by rw [hr] at h0; cases h0), fun q hq => ?_⟩
  rw [hr] at hq
  simp at hq
  rcases hq with rfl | rfl
  · refine wpOp_step hoi (fun K' hK => ?_)
    rw [if_pos hwi]
    exact h1 K' (fun a w hS hW => hK a w ⟨hS, hW⟩)
  · refine wpOp_step hoj (fun K' hK => ?_)
    rw [if_pos hwj]
    exact h2 K' (fun a w hS hW => hK a w ⟨hS, hW⟩)

theorem run_moreG {α : Type} (T : Kind α) {w : World} (t ty : TypeId) (ht : Tryd.prog.underlying t = some (.slice T.ty))
    (N lb : Nat) (ok : Nat → Prop) (v : Value) (l : List α) (hown : OwnX T ok w v l) (cs : List Value) (y : α) (hE : T.E (fun i => N ≤ i) w cs y) (hlit : ∀ j u, cs[j]? = some u → w.cell? ((⟨lb, 0, none⟩ : Addr).add j) = some u)
    (hN : ∀ i, ok i → i < N) (hNw : N ≤ w.heap.size) (hM : (l.length + 1) * T.bytes ≤ 140737488355328) (hm : l.length + 1 ≤ maxLen) :
    ∃ v' w', (Builtin.append_ #[t, t] ty #[v, .slice (some ⟨lb, 0, none⟩) 1 1]).run Tryd.prog w = .ok v' w' ∧ OwnX T (fun i => ok i ∨ N ≤ i) w' v' (l ++ [y]) ∧ w.grownBy w' v.ownBlock := by
  obtain ⟨i0, hi, hz0, hz1, hz2⟩ := info_parts T.info
  obtain ⟨D, hrow, hvb, hD⟩ := hown
  have hl := T.len hE
  obtain ⟨v', w', hrun, hrow', hgrow, hmv⟩ := run_push (P := Tryd.prog) w 0 t ty T.ty i0 T.zero T.k T.bytes ht hi hz0 hz1 hz2 T.zs T.pos v l.length _ hrow ⟨lb, 0, none⟩ 1 1 cs (by simp [hl]) hlit (T.one hE) hm hM (by simp)
  have hmv' : v'.ownBlock = v.ownBlock ∨ ∃ k, v'.ownBlock = some k ∧ w.heap.size ≤ k := hmv
  have hgk : ∀ k, some k ≠ v.ownBlock → k < w.heap.size → w'.heap[k]? = w.heap[k]? := fun k hk hl => hgrow.block k hl hk
  have hoff : ∀ i, some i ≠ v.ownBlock → i < w.heap.size → some i ≠ v'.ownBlock := fun i h1 h2 e => by
    rcases hmv' with h | ⟨k, hk, hz⟩
    · exact h1 (e.trans h)
    · rw [hk] at e
      injection e with e
      omega
  refine ⟨v', w', hrun, ⟨fun q => if q = l.length then cs else D q, ?_, ?_, fun j hj => ?_⟩, hgrow⟩
  · have e : flat (fun q => if q = l.length then cs else D q) (l.length + 1) = flat D l.length ++ cs := by
      rw [flat, flat_congr (D := D) l.length (fun q hq => by rw [if_neg (by omega)])]
      simp
    rw [List.length_append, List.length_singleton, e]
    exact hrow'
  · intro k hk
    rcases hmv' with h | ⟨q, hq, hz⟩
    · exact .inl (hvb k (h.symm.trans hk))
    · rw [hq] at hk
      injection hk with hk
      exact .inr (by omega)
  · by_cases e : j = l.length
    · subst e
      simp only [if_true, List.getElem_append_right (Nat.le_refl _), Nat.sub_self, List.getElem_cons_zero]
      have g1 := T.wide (ok' := fun k => N ≤ k ∧ some k ≠ v.ownBlock ∧ k < w.heap.size) hE (fun k hk hl => ⟨hk, fun e => by have := hN k (hvb k e.symm); omega, hl⟩)
      have g2 := T.keep g1 hgrow.size (fun k hk hl => hgk k hk.2.1 hl)
      exact T.wide g2 (fun k hk _ => ⟨.inr hk.1, hoff k hk.2.1 hk.2.2⟩)
    · have hjl : j < l.length := by simp at hj; omega
      simp only [if_neg e, List.getElem_append_left hjl]
      have g1 := T.wide (ok' := fun k => ok k ∧ some k ≠ v.ownBlock ∧ k < w.heap.size) (hD j hjl) (fun k hk hl => ⟨hk.1, hk.2, hl⟩)
      have g2 := T.keep g1 hgrow.size (fun k hk hl => hgk k hk.2.1 hl)
      exact T.wide g2 (fun k hk _ => ⟨.inl hk.1, hoff k hk.2.1 hk.2.2⟩)

theorem oper_moreG {α : Type} (T : Kind α) {w : World} {o : Oper} {a : Act} {K : Act → World → Prop} {Q : Exit → Act → World → Prop} (s x : Operand) (t : TypeId)
    (ho : o.op = .call { callee := .builtin .append, args := #[s, x], argTypes := #[t, t] }) (ht : Tryd.prog.underlying t = some (.slice T.ty))
    (N lb : Nat) (ok : Nat → Prop) (v : Value) (l : List α) (hs : a.eval s = v) (hown : OwnX T ok w v l) (cs : List Value) (y : α) (hE : T.E (fun i => N ≤ i) w cs y) (hlit : ∀ j u, cs[j]? = some u → w.cell? ((⟨lb, 0, none⟩ : Addr).add j) = some u) (hx : a.eval x = .slice (some ⟨lb, 0, none⟩) 1 1)
    (hN : ∀ i, ok i → i < N) (hNw : N ≤ w.heap.size) (hM : (l.length + 1) * T.bytes ≤ 140737488355328) (hm : l.length + 1 ≤ maxLen)
    (h : ∀ v' w', OwnX T (fun i => ok i ∨ N ≤ i) w' v' (l ++ [y]) → w.grownBy w' v.ownBlock → K (a.put o.dst v') w') :
    Oper.wp Tryd.prog o a w K Q := by
  obtain ⟨v', w', hr, h2, h3⟩ := run_moreG T t o.type ht N lb ok v l hown cs y hE hlit hN hNw hM hm
  unfold Oper.wp execOp
  simp only [ho, resolve, invoke, builtin, Sem.run_bind, Sem.run_pure, Result.andThen_ok, List.map_toArray, List.map_cons, List.map_nil, hs, hx, hr]
  exact h v' w' h2 h3

/-- an expression's cells put at a place of a block -/
def putAt (w : World) (k o : Nat) (y : ExV) : World := (((((w.setCell ⟨k, o, none⟩ (.int .i64 y.op)).setCell ⟨k, o + 1, none⟩ (.int .i64 y.k)).setCell ⟨k, o + 2, none⟩ (.int .i64 y.n)).setCell ⟨k, o + 3, none⟩ (.string y.name)).setCell ⟨k, o + 4, none⟩ (.slice y.aS y.nS y.cS)).setCell ⟨k, o + 5, none⟩ (.slice y.aL y.nL y.cL)
theorem putAt_size (w : World) (k o : Nat) (y : ExV) : (putAt w k o y).heap.size = w.heap.size := by simp [putAt, World.setCell]
theorem putAt_block (w : World) (k o : Nat) (y : ExV) (i : Nat) (h : i ≠ k) : (putAt w k o y).heap[i]? = w.heap[i]? := by
  unfold putAt
  rw [Below.heap_setCell _ _ _ _ h, Below.heap_setCell _ _ _ _ h, Below.heap_setCell _ _ _ _ h, Below.heap_setCell _ _ _ _ h, Below.heap_setCell _ _ _ _ h, Below.heap_setCell _ _ _ _ h]
theorem putAt_in {w : World} {k : Nat} {cs : Array Value} {t : TypeId} (h : w.heap[k]? = some (.cells cs t (0, 0))) (o : Nat) (y : ExV) : (putAt w k o y).heap[k]? = some (.cells ((((((cs.setIfInBounds o (.int .i64 y.op)).setIfInBounds (o + 1) (.int .i64 y.k)).setIfInBounds (o + 2) (.int .i64 y.n)).setIfInBounds (o + 3) (.string y.name)).setIfInBounds (o + 4) (.slice y.aS y.nS y.cS)).setIfInBounds (o + 5) (.slice y.aL y.nL y.cL)) t (0, 0)) :=
  set_in (set_in (set_in (set_in (set_in (set_in h o (.int .i64 y.op)) (o + 1) (.int .i64 y.k)) (o + 2) (.int .i64 y.n)) (o + 3) (.string y.name)) (o + 4) (.slice y.aS y.nS y.cS)) (o + 5) (.slice y.aL y.nL y.cL)

end Go.Proofs.YtfhjejmadhcmnaaDoor
