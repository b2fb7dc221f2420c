import Derived.Test.YtgjdkgkgbmbffaaDoorJ06
import Derived.Test.YtgjdkgkgbmbffaaDoorJ00
import Derived.WalkKit
import Derived.WalkSpells
import Derived.IntWalk
set_option linter.unusedVariables false
set_option linter.unusedSimpArgs false
set_option maxHeartbeats 64000000
set_option maxRecDepth 100000
namespace Go.Proofs.YtgjdkgkgbmbffaaDoor
open Go.RowKit Go.IntWalk
set_option linter.unusedVariables false
set_option linter.unusedSimpArgs false
/-- v is a row of the call's own that holds l; it and what it holds lie in blocks that 'ok' lets by -/
def OwnX {α : Type} (T : Kind α) (ok : Nat → Prop) (w : World) (v : Value) (l : List α) : Prop :=
  ∃ D, w.ownsRow 0 T.ty T.k v l.length (flat D l.length) ∧ (∀ k, v.ownBlock = some k → ok k) ∧ ∀ j (h : j < l.length), T.E (fun i => ok i ∧ some i ≠ v.ownBlock) w (D j) l[j]
theorem OwnX.nil {α : Type} {T : Kind α} {ok : Nat → Prop} {w : World} : OwnX T ok w (.slice none 0 0) [] :=
  ⟨fun _ => [], World.ownsRow_nil _ _ _ _, fun k hk => (by cases hk), fun j h => absurd h (Nat.not_lt_zero _)⟩
theorem OwnX.form {α : Type} {T : Kind α} {ok : Nat → Prop} {w : World} {v : Value} {l : List α} (h : OwnX T ok w v l) : ∃ a c, v = .slice a l.length c ∧ l.length ≤ c ∧ c ≤ maxLen := by
  obtain ⟨D, h1, h2⟩ := h
  rcases h1.2 with ⟨rfl, h0⟩ | ⟨g, cap, cur, rfl, hb, hg, hnc, hcm, _⟩
  · exact ⟨none, 0, by rw [h0], by omega, by unfold maxLen; omega⟩
  · exact ⟨_, _, rfl, hnc, hcm⟩
theorem OwnX.keep {α : Type} {T : Kind α} {ok : Nat → Prop} {w w' : World} {v : Value} {l : List α} (h : OwnX T ok w v l) (hs : w.heap.size ≤ w'.heap.size) (hk : ∀ i, ok i → i < w.heap.size → w'.heap[i]? = w.heap[i]?) : OwnX T ok w' v l := by
  obtain ⟨D, h1, h2, h3⟩ := h
  refine ⟨D, ⟨h1.1, ?_⟩, h2, fun j hj => T.keep (h3 j hj) hs fun i hi hl => hk i hi.1 hl⟩
  rcases h1.2 with h0 | ⟨g, cap, cur, rfl, hb, hg, hr⟩
  · exact .inl h0
  · exact .inr ⟨g, cap, cur, rfl, hb, (hk g (h2 g rfl) (lt_of hg)).trans hg, hr⟩
theorem OwnX.wide {α : Type} {T : Kind α} {ok ok' : Nat → Prop} {w : World} {v : Value} {l : List α} (h : OwnX T ok w v l) (hk : ∀ i, ok i → i < w.heap.size → ok' i) : OwnX T ok' w v l := by
  obtain ⟨D, h1, h2, h3⟩ := h
  exact ⟨D, h1, fun k hq => hk k (h2 k hq) (World.ownsRow.lt h1 k hq).2, fun j hj => T.wide (h3 j hj) fun i hi hl => ⟨hk i hi.1 hl, hi.2⟩⟩
theorem OwnX.under {α : Type} {T : Kind α} {ok : Nat → Prop} {w w' : World} {v : Value} {l : List α} (h : OwnX T ok w v l) (hb : Below w.heap.size w w') : OwnX T ok w' v l := h.keep hb.size fun i _ hl => hb.block i hl
theorem OwnX.set {α : Type} {T : Kind α} {ok : Nat → Prop} {w : World} {v : Value} {l : List α} (h : OwnX T ok w v l) {p : Addr} (hp : ¬ ok p.block) (u : Value) : OwnX T ok (w.setCell p u) v l :=
  h.keep (by simp [World.setCell]) fun i hi hl => Below.heap_setCell _ _ _ _ (fun e => hp (e ▸ hi))
theorem OwnX.row {α : Type} {T : Kind α} {ok : Nat → Prop} {w : World} {v : Value} {l : List α} (h : OwnX T ok w v l) : HRow T ok w v l := by
  obtain ⟨D, h1, h2, h3⟩ := h
  obtain ⟨ao, cap, hv, q1, q2, q3⟩ := owns_sl h1 (fun i hi => T.len (h3 i hi))
  refine ⟨D, ⟨ao, cap, hv, q1, q2, fun hn => ?_⟩, fun j hj => T.wide (h3 j hj) fun i hi _ => hi.1⟩
  obtain ⟨b, o, ha, _, hb, hc⟩ := q3 hn
  refine ⟨b, o, ha, ?_, hb, hc⟩
  obtain ⟨g, cap', hv', _⟩ := owns_pos h1 hn
  rw [hv] at hv'
  injection hv' with e1 e2 e3
  rw [ha] at e1
  injection e1 with e1
  injection e1 with e4 e5 e6
  exact h2 b (by rw [hv, ha, e5]; simp [Value.ownBlock])
/-- append of one thing to a row of the call's own: the thing lies in new memory -/
theorem run_moreX {α : Type} (T : Kind α) {w : World} (t tt ty : TypeId) (ht : Tryd.prog.underlying t = some (.slice T.ty))
    (N : Nat) (ok : Nat → Prop) (v : Value) (l : List α) (hown : OwnX T ok w v l) (cs : List Value) (y : α) (hE : T.E (fun i => N ≤ i) w cs y)
    (hN : ∀ i, ok i → i < N) (hNw : N ≤ w.heap.size) (hM : (l.length + 1) * T.bytes ≤ 140737488355328) (hm : l.length + 1 ≤ maxLen) :
    ∃ v' w', (Builtin.append_ #[t, t] ty #[v, .slice (some ⟨w.heap.size, 0, none⟩) 1 1]).run Tryd.prog (w.alloc (.cells cs.toArray tt (0, 0))) = .ok v' w' ∧ OwnX T (fun i => ok i ∨ N ≤ i) w' v' (l ++ [y]) ∧ (w.alloc (.cells cs.toArray tt (0, 0))).grownBy w' v.ownBlock := by
  obtain ⟨i0, hi, hz0, hz1, hz2⟩ := info_parts T.info
  have hown1 := hown.under ((Below.refl _ w).alloc (Nat.le_refl _) (.cells cs.toArray tt (0, 0)))
  obtain ⟨D, hrow, hvb, hD⟩ := hown1
  have hl := T.len hE
  obtain ⟨v', w', hrun, hrow', hgrow, hmv⟩ := run_push (P := Tryd.prog) (w.alloc (.cells cs.toArray tt (0, 0))) 0 t ty T.ty i0 T.zero T.k T.bytes ht hi hz0 hz1 hz2 T.zs T.pos v l.length _ hrow ⟨w.heap.size, 0, none⟩ 1 1 cs (by simp [hl]) (cells_new w cs tt) (T.one hE) hm hM (by simp)
  have hmv' : v'.ownBlock = v.ownBlock ∨ ∃ k, v'.ownBlock = some k ∧ w.heap.size + 1 ≤ k := by
    rcases hmv with h | ⟨k, h1, h2⟩
    · exact .inl h
    · exact .inr ⟨k, h1, by simpa using h2⟩
  have hgk : ∀ k, some k ≠ v.ownBlock → k < (w.alloc (.cells cs.toArray tt (0, 0))).heap.size → w'.heap[k]? = (w.alloc (.cells cs.toArray tt (0, 0))).heap[k]? := fun k hk hl => hgrow.block k hl hk
  have hoff : ∀ i, some i ≠ v.ownBlock → i < w.heap.size + 1 → some i ≠ v'.ownBlock := fun i h1 h2 e => by
    rcases hmv' with h | ⟨k, hk, hz⟩
    · exact h1 (e.trans h)
    · rw [hk] at e
      injection e with e
      omega
  refine ⟨v', w', hrun, ⟨fun q => if q = l.length then cs else D q, ?_, ?_, fun j hj => ?_⟩, hgrow⟩
  · have e : flat (fun q => if q = l.length then cs else D q) (l.length + 1) = flat D l.length ++ cs := by
      rw [flat, flat_congr (D := D) l.length (fun q hq => by rw [if_neg (by omega)])]
      simp
    rw [List.length_append, List.length_singleton, e]
    exact hrow'
  · intro k hk
    rcases hmv' with h | ⟨q, hq, hz⟩
    · exact .inl (hvb k (h.symm.trans hk))
    · rw [hq] at hk
      injection hk with hk
      exact .inr (by omega)
  · by_cases e : j = l.length
    · subst e
      simp only [if_true, List.getElem_append_right (Nat.le_refl _), Nat.sub_self, List.getElem_cons_zero]
      have g0 := T.keep (w' := w.alloc (.cells cs.toArray tt (0, 0))) hE (by simp) fun i _ hl => Below.heap_alloc _ _ _ hl
      have g1 := T.wide (ok' := fun k => N ≤ k ∧ some k ≠ v.ownBlock ∧ k < w.heap.size + 1) g0 (fun k hk hl => ⟨hk, fun e => by have := hN k (hvb k e.symm); omega, by simpa using hl⟩)
      have g2 := T.keep g1 hgrow.size (fun k hk hl => hgk k hk.2.1 hl)
      exact T.wide g2 (fun k hk _ => ⟨.inr hk.1, hoff k hk.2.1 hk.2.2⟩)
    · have hjl : j < l.length := by simp at hj; omega
      simp only [if_neg e, List.getElem_append_left hjl]
      have g1 := T.wide (ok' := fun k => ok k ∧ some k ≠ v.ownBlock ∧ k < w.heap.size + 1) (hD j hjl) (fun k hk hl => ⟨hk.1, hk.2, by simpa using hl⟩)
      have g2 := T.keep g1 hgrow.size (fun k hk hl => hgk k hk.2.1 hl)
      exact T.wide g2 (fun k hk _ => ⟨.inl hk.1, hoff k hk.2.1 hk.2.2⟩)
/-- .. as one operation of a region -/
theorem oper_moreX {α : Type} (T : Kind α) {w : World} {o : Oper} {a : Act} {K : Act → World → Prop} {Q : Exit → Act → World → Prop} (s x : Operand) (t tt : TypeId)
    (ho : o.op = .call { callee := .builtin .append, args := #[s, x], argTypes := #[t, t] }) (ht : Tryd.prog.underlying t = some (.slice T.ty))
    (N : Nat) (ok : Nat → Prop) (v : Value) (l : List α) (hs : a.eval s = v) (hown : OwnX T ok w v l) (cs : List Value) (y : α) (hE : T.E (fun i => N ≤ i) w cs y) (hx : a.eval x = .slice (some ⟨w.heap.size, 0, none⟩) 1 1)
    (hN : ∀ i, ok i → i < N) (hNw : N ≤ w.heap.size) (hM : (l.length + 1) * T.bytes ≤ 140737488355328) (hm : l.length + 1 ≤ maxLen)
    (h : ∀ v' w', OwnX T (fun i => ok i ∨ N ≤ i) w' v' (l ++ [y]) → (w.alloc (.cells cs.toArray tt (0, 0))).grownBy w' v.ownBlock → K (a.put o.dst v') w') :
    Oper.wp Tryd.prog o a (w.alloc (.cells cs.toArray tt (0, 0))) K Q := by
  obtain ⟨v', w', hr, h2, h3⟩ := run_moreX T t tt o.type ht N ok v l hown cs y hE hN hNw hM hm
  unfold Oper.wp execOp
  simp only [ho, resolve, invoke, builtin, Sem.run_bind, Sem.run_pure, Result.andThen_ok, List.map_toArray, List.map_cons, List.map_nil, hs, hx, hr]
  exact h v' w' h2 h3
/-- what an append to a row of 'ok' blocks leaves as it was -/
theorem grown_other {ok : Nat → Prop} {w W' : World} {v : Value} {o : Obj} (hg : (w.alloc o).grownBy W' v.ownBlock) (hv : ∀ k, v.ownBlock = some k → ok k) : w.heap.size ≤ W'.heap.size ∧ ∀ k, k < w.heap.size → ¬ ok k → W'.heap[k]? = w.heap[k]? := by
  refine ⟨Nat.le_trans (by simp) hg.size, fun k hk hn => ?_⟩
  rw [hg.block k (by simp; omega) (fun e => hn (hv k e.symm))]
  exact Below.heap_alloc _ _ _ hk
theorem grown_aside {ok : Nat → Prop} {S : List Nat} {B : Nat} {w W' : World} {v : Value} {o : Obj} (hg : (w.alloc o).grownBy W' v.ownBlock) (hv : ∀ k, v.ownBlock = some k → ok k) (hok : ∀ i, ok i → B ≤ i) (hB : B ≤ w.heap.size) : Aside S B w W' :=
  ⟨hg.os, hg.tape, hg.output, (grown_other hg hv).1, fun k hk _ => (grown_other hg hv).2 k (by omega) (fun h => by have := hok k h; omega)⟩
end Go.Proofs.YtgjdkgkgbmbffaaDoor
namespace Go.Proofs.YtgjdkgkgbmbffaaDoor
open Go.RowKit Go.IntWalk
set_option linter.unusedVariables false
set_option linter.unusedSimpArgs false
/-- two may come up -/
theorem wpAnyL_two {P : Program} {ops : Array Oper} {Q : Exit → Act → World → Prop} {md : Region.Mode} {S : World → Prop} {late : Nat → Bool} {i j : Nat} {oi oj : Oper} {fuel : Nat} {listed : Array Bool} {a : Act} {w : World} (hoi : ops[i]? = some oi) (hoj : ops[j]? = some oj) (hr : Region.ready md ops listed = [i, j])
    (hwi : Region.wanted oi (yielded ops a.tmps) = true) (hwj : Region.wanted oj (yielded ops a.tmps) = true)
    (h1 : ∀ K' : Act → World → Prop, Shut (∀ a w, (late i = false → S w) → wpAnyL P md ops Q S late fuel (listed.setIfInBounds i true) a w → K' a w) → Oper.wp P oi a w K' Q)
    (h2 : ∀ K' : Act → World → Prop, Shut (∀ a w, (late j = false → S w) → wpAnyL P md ops Q S late fuel (listed.setIfInBounds j true) a w → K' a w) → Oper.wp P oj a w K' Q) : wpAnyL P md ops Q S late (fuel + 1) listed a w := by
  refine ⟨fun h0 => (by rw [hr] at h0; cases h0), fun q hq => ?_⟩
  rw [hr] at hq
  simp at hq
  rcases hq with rfl | rfl
  · refine wpOp_step hoi (fun K' hK => ?_)
    rw [if_pos hwi]
    exact h1 K' (fun a w hS hW => hK a w ⟨hS, hW⟩)
  · refine wpOp_step hoj (fun K' hK => ?_)
    rw [if_pos hwj]
    exact h2 K' (fun a w hS hW => hK a w ⟨hS, hW⟩)
end Go.Proofs.YtgjdkgkgbmbffaaDoor
namespace Go.Proofs.YtgjdkgkgbmbffaaDoor
open Go.RowKit Go.IntWalk
set_option linter.unusedVariables false
set_option linter.unusedSimpArgs false
def tr (b : Bool) : Int := if b = true then 1 else 0
/-- what an operator makes of two numbers -/
def apT (k a b : Int) : Int :=
  if k = 1 then wrap64 (a + b) else if k = 2 then wrap64 (a - b) else if k = 3 then wrap64 (a * b)
  else if k = 4 then (if b = 0 then 0 else wrap64 (a.tdiv b)) else if k = 5 then (if b = 0 then 0 else a.tmod b)
  else if k = 6 then min a b else if k = 7 then max a b else if k = 8 then tr (decide (a < b)) else if k = 9 then tr (decide (a = b))
  else if k = 10 then tr (decide (a ≠ 0 ∧ b ≠ 0)) else if k = 11 then tr (decide (a ≠ 0 ∨ b ≠ 0)) else if k = 12 then tr (decide (¬ (a = 0 ↔ b = 0)))
  else if k = 13 then wrap64 (-a) else if k = 14 then tr (decide (a = 0)) else 0
theorem truth_any (b : Bool) (w : World) : Calls Tryd.prog 55 #[.bool b] w fun e w' => e = .returned (.int .i64 (tr b)) ∧ w' = w := by
  cases b
  all_goals (go_enter Tryd.func55, Tryd.ntmps55; go_wp2; go_ret; exact ⟨rfl, rfl⟩)
set_option maxHeartbeats 1000000 in
theorem divided_any (k a b : Int) (w : World) (hk : k = 4 ∨ k = 5) : Calls Tryd.prog 54 #[.int .i64 k, .int .i64 a, .int .i64 b] w fun e w' => e = .returned (.int .i64 (apT k a b)) ∧ w' = w := by
  by_cases hb : b = 0
  · subst hb
    go_enter Tryd.func54, Tryd.ntmps54
    go_wp2
    go_ret
    refine ⟨ret_int ?_, rfl⟩
    rcases hk with rfl | rfl <;> simp [apT]
  · have h1 : (b == 0) = false := by simpa using hb
    rcases hk with rfl | rfl
    · go_enter Tryd.func54, Tryd.ntmps54
      go_wp2
      go_ret
      refine ⟨ret_int ?_, rfl⟩
      simp [apT, hb]
    · go_enter Tryd.func54, Tryd.ntmps54
      go_wp2
      go_ret
      refine ⟨ret_int ?_, rfl⟩
      simp [apT, hb]
set_option maxHeartbeats 1000000 in
theorem ofTruths_any (k : Int) (a b : Bool) (w : World) : Calls Tryd.prog 56 #[.int .i64 k, .bool a, .bool b] w fun e w' => e = .returned (.int .i64 (if k = 10 then tr (a && b) else if k = 11 then tr (a || b) else if k = 12 then tr (a != b) else if k = 14 then tr (!a) else 0)) ∧ w' = w := by
  have ht := fun b w => truth_any b w
  cases a <;> cases b
  all_goals
    by_cases h10 : k = 10
    · subst h10
      go_enter Tryd.func56, Tryd.ntmps56
      go_wp2_with (go_at_call 55; refine (ht _ _).mono ?_; rintro e w' ⟨rfl, rfl⟩)
      go_ret
      exact ⟨rfl, rfl⟩
    by_cases h11 : k = 11
    · subst h11
      go_enter Tryd.func56, Tryd.ntmps56
      go_wp2_with (go_at_call 55; refine (ht _ _).mono ?_; rintro e w' ⟨rfl, rfl⟩)
      go_ret
      exact ⟨rfl, rfl⟩
    by_cases h12 : k = 12
    · subst h12
      go_enter Tryd.func56, Tryd.ntmps56
      go_wp2_with (go_at_call 55; refine (ht _ _).mono ?_; rintro e w' ⟨rfl, rfl⟩)
      go_ret
      exact ⟨rfl, rfl⟩
    by_cases h14 : k = 14
    · subst h14
      go_enter Tryd.func56, Tryd.ntmps56
      go_wp2_with (go_at_call 55; refine (ht _ _).mono ?_; rintro e w' ⟨rfl, rfl⟩)
      go_ret
      exact ⟨rfl, rfl⟩
    rw [if_neg h10, if_neg h11, if_neg h12, if_neg h14]
    go_enter Tryd.func56, Tryd.ntmps56
    go_wp2_with (go_at_call 55; refine (ht _ _).mono ?_; rintro e w' ⟨rfl, rfl⟩)
    go_ret
    exact ⟨rfl, rfl⟩
end Go.Proofs.YtgjdkgkgbmbffaaDoor
