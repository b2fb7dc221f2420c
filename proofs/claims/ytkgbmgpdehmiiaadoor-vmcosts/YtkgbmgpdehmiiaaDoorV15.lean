import Derived.Test.YtkgbmgpdehmiiaaDoorV12
set_option linter.unusedVariables false
set_option linter.unusedSimpArgs false
set_option maxHeartbeats 64000000
set_option maxRecDepth 100000
namespace Go.Proofs.YtkgbmgpdehmiiaaDoor
open Go.RowKit Go.IntWalk
set_option linter.unusedVariables false
set_option linter.unusedSimpArgs false
theorem flat_appK (C D : Nat → List Value) (n : Nat) : ∀ m, flat (fun q => if q < n then C q else D (q - n)) (n + m) = flat C n ++ flat D m
  | 0 => by
    rw [Nat.add_zero, flat_congr (D := C) n (fun q hq => by rw [if_pos hq])]
    simp [flat]
  | m + 1 => by
    rw [← Nat.add_assoc, flat, flat_appK C D n m, flat, if_neg (by omega), List.append_assoc]
    congr 3
    omega
/-- a whole row behind a row of the call's own -/
theorem run_joinO {α : Type} (T : Kind α) {w : World} (t ty : TypeId) (ht : Tryd.prog.underlying t = some (.slice T.ty)) {ok okr : Nat → Prop} {v u : Value} {l r : List α} (hown : OwnX T ok w v l) (hr : HRow T okr w u r)
    (hap : ∀ k, v.ownBlock = some k → ¬ okr k) (hM : (l.length + r.length) * T.bytes ≤ 140737488355328) (hm : l.length + r.length ≤ maxLen) :
    ∃ v' w', (Builtin.append_ #[t, t] ty #[v, u]).run Tryd.prog w = .ok v' w' ∧ OwnX T (fun k => ok k ∨ okr k ∨ w.heap.size ≤ k) w' v' (l ++ r) ∧ w.grownBy w' v.ownBlock ∧ (v'.ownBlock = v.ownBlock ∨ ∃ k, v'.ownBlock = some k ∧ w.heap.size ≤ k) := by
  obtain ⟨i0, hi, hz0, hz1, hz2⟩ := info_parts T.info
  have hown0 := hown
  obtain ⟨D, hrow, hok, hD⟩ := hown
  obtain ⟨C, hS, hC⟩ := hr
  have hS0 := hS
  obtain ⟨ao, cap, rfl, h2, h3, h4⟩ := hS
  have hCl : ∀ i, i < r.length → (C i).length = T.k := fun i hi => T.len (hC i hi)
  have hDl : ∀ i, i < l.length → (D i).length = T.k := fun i hi => T.len (hD i hi)
  cases ao with
  | none =>
    have hr0 : r = [] := by
      cases r with
      | nil => rfl
      | cons x r =>
        obtain ⟨b, o, e, _⟩ := h4 (by simp)
        cases e
    subst hr0
    have hrun : (Builtin.append_ #[t, t] ty #[v, .slice none 0 cap]).run Tryd.prog w = .ok v w := by
      rcases hrow.2 with ⟨rfl, h0⟩ | ⟨g, c, cur, rfl, _, _, hnc, _⟩
      · simp [Builtin.append_, run_underlying ht, sizeOf, typeInfo, hi, Builtin.lenOf, Builtin.firstCells]
      · simp [Builtin.append_, run_underlying ht, sizeOf, typeInfo, hi, Builtin.lenOf, Builtin.firstCells, hnc, storeCells]
    refine ⟨v, w, hrun, ?_, ⟨rfl, rfl, rfl, Nat.le_refl _, fun _ _ _ => rfl⟩, .inl rfl⟩
    rw [List.append_nil]
    exact hown0.wide (fun i hi _ => .inl hi)
  | some a =>
    have hone : ∀ x ∈ flat C r.length, x.oneCell' = true := fun x hx => by
      obtain ⟨i, hi, hx⟩ := flat_mem _ _ hx
      exact T.one (hC i hi) x hx
    have hnews : ∀ j u, (flat C r.length)[j]? = some u → w.cell? (a.add j) = some u := by
      by_cases h0 : 0 < r.length
      · obtain ⟨b, o, e, hb, hbl, hcells⟩ := h4 h0
        injection e with e
        subst e
        exact Sl.news T.pos hS0
      · intro j u hj
        have e : r.length = 0 := by omega
        rw [e] at hj
        simp [flat] at hj
    obtain ⟨v', w', hrun, hrow', hgrow, hmv⟩ := run_push w 0 t ty T.ty i0 T.zero T.k T.bytes ht hi hz0 hz1 hz2 T.zs T.pos v l.length _ hrow a r.length cap (flat C r.length) (flat_len _ hCl) hnews hone hm hM (Nat.zero_le _)
    have hnv : ∀ i, i < w.heap.size → some i ≠ v.ownBlock → some i ≠ v'.ownBlock := by
      intro i hi hne
      rcases hmv with h | ⟨k, hk, hl⟩
      · rw [h]; exact hne
      · rw [hk]
        intro e
        injection e with e
        omega
    refine ⟨v', w', hrun, ⟨fun q => if q < l.length then D q else C (q - l.length), ?_, fun k hk => ?_, fun j hj => ?_⟩, hgrow, hmv⟩
    · rw [List.length_append, flat_appK]
      exact hrow'
    · rcases hmv with h | ⟨k', hk', hl⟩
      · exact .inl (hok k (h ▸ hk))
      · rw [hk] at hk'
        injection hk' with e
        subst e
        exact .inr (.inr hl)
    · by_cases e : j < l.length
      · simp only [if_pos e, List.getElem_append_left e]
        have g0 := T.wide (ok' := fun k => (ok k ∧ some k ≠ v.ownBlock) ∧ k < w.heap.size) (hD j e) (fun k hk hl => ⟨hk, hl⟩)
        have g1 := T.keep g0 hgrow.size (fun k hk hl => hgrow.block k hl hk.1.2)
        exact T.wide g1 (fun k hk _ => ⟨.inl hk.1.1, hnv k hk.2 hk.1.2⟩)
      · have hj2 : j - l.length < r.length := by simp at hj; omega
        simp only [if_neg e, List.getElem_append_right (Nat.le_of_not_lt e)]
        have g0 := T.wide (ok' := fun k => okr k ∧ k < w.heap.size) (hC _ hj2) (fun k hk hl => ⟨hk, hl⟩)
        have g1 := T.keep g0 hgrow.size (fun k hk hl => hgrow.block k hl (fun e => hap k e.symm hk.1))
        exact T.wide g1 (fun k hk _ => ⟨.inr (.inl hk.1), hnv k hk.2 (fun e => hap k e.symm hk.1)⟩)
/-- append, its run being known -/
theorem wpList_joinO {w w' : World} {ops : Array Oper} {rest : List Oper} {o : Oper} {a : Act} {Q : Exit → Act → World → Prop} (hgd : o.guard = none) (s x : Operand) (t : TypeId) (ho : o.op = .call { callee := .builtin .append, args := #[s, x], argTypes := #[t, t] }) (v u v' : Value) (hs : a.eval s = v) (hx : a.eval x = u)
    (hr : (Builtin.append_ #[t, t] o.type #[v, u]).run Tryd.prog w = .ok v' w') (h : wpList Tryd.prog ops Q rest (a.put o.dst v') w') : wpList Tryd.prog ops Q (o :: rest) a w := by
  refine wpList_plain hgd fun _ hK => ?_
  unfold Oper.wp execOp
  simp only [ho, resolve, invoke, builtin, Sem.run_bind, Sem.run_pure, Result.andThen_ok, List.map_toArray, List.map_cons, List.map_nil, hs, hx, hr]
  exact hK _ _ h
end Go.Proofs.YtkgbmgpdehmiiaaDoor
