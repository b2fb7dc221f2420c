import Derived.Test.YtgjdkgkgbmbffaaDoorJ11
import Derived.Deep.Cut
import Derived.Deep.LoopGhost
import Derived.Ground.NamesProg
import Derived.IntWalk
import Derived.Laws.Cover1
import Derived.Laws.Externs
import Derived.Lib.Hide
import Derived.Lib.MakeNoZero
import Derived.Lib.SlBuf
import Derived.Shelf.Bytes.SlSmallAll
import Derived.Shelf.Lay
import Derived.WalkKit
import Derived.WalkSpells
set_option linter.unusedVariables false
set_option linter.unusedSimpArgs false
set_option maxHeartbeats 64000000
set_option maxRecDepth 100000
namespace Go.Proofs.YtgjdkgkgbmbffaaDoor
open Go.RowKit Go.IntWalk
set_option linter.unusedVariables false
set_option linter.unusedSimpArgs false
theorem ownX_of {α : Type} {T : Kind α} {B : Nat} {w : World} {v : Value} {l : List α} (h : OwnL T B w v l) : OwnX T (fun i => B ≤ i ∧ i < w.heap.size) w v l := by
  have hlt := h.lt
  obtain ⟨D, ⟨h1, h2⟩, h3⟩ := h
  refine ⟨D, ⟨h1, ?_⟩, fun k hk => hlt k hk, fun j hj => T.wide (h3 j hj) fun i hi hl => ⟨⟨hi.1, hl⟩, hi.2⟩⟩
  rcases h2 with h | ⟨g, cap, cur, e1, e2, e3⟩
  · exact .inl h
  · exact .inr ⟨g, cap, cur, e1, Nat.zero_le _, e3⟩
theorem ownL_of {α : Type} {T : Kind α} {ok : Nat → Prop} {B : Nat} {w : World} {v : Value} {l : List α} (h : OwnX T ok w v l) (hk : ∀ i, ok i → B ≤ i) : OwnL T B w v l := by
  obtain ⟨D, ⟨h1, h2⟩, h3, h4⟩ := h
  refine ⟨D, ⟨h1, ?_⟩, fun j hj => T.wide (h4 j hj) fun i hi _ => ⟨hk i hi.1, hi.2⟩⟩
  rcases h2 with h | ⟨g, cap, cur, e1, e2, e3⟩
  · exact .inl h
  · refine .inr ⟨g, cap, cur, e1, hk g (h3 g ?_), e3⟩
    rw [e1]
    rfl
theorem run_own {α : Type} (T : Kind α) {w : World} (t tt ty : TypeId) (ht : Tryd.prog.underlying t = some (.slice T.ty)) (B N : Nat) (v : Value) (l : List α) (hown : OwnL T B w v l) (cs : List Value) (y : α) (hE : T.E (fun i => N ≤ i) w cs y)
    (hNw : w.heap.size ≤ N ∨ (N ≤ w.heap.size ∧ ∀ k, v.ownBlock = some k → k < N ∧ (fun i => B ≤ i ∧ i < N) k)) (hBN : B ≤ N) (hBw : B ≤ w.heap.size) (hM : (l.length + 1) * T.bytes ≤ 140737488355328) (hm : l.length + 1 ≤ maxLen) (hE2 : T.E (fun i => w.heap.size ≤ i) w cs y) :
    ∃ v' w', (Builtin.append_ #[t, t] ty #[v, .slice (some ⟨w.heap.size, 0, none⟩) 1 1]).run Tryd.prog (w.alloc (.cells cs.toArray tt (0, 0))) = .ok v' w' ∧ OwnL T B w' v' (l ++ [y]) ∧ Below B w w' := by
  obtain ⟨v', w', hr, h2, h3⟩ := run_moreX T t tt ty ht w.heap.size _ v l (ownX_of hown) cs y hE2 (fun i hi => hi.2) (Nat.le_refl _) hM hm
  refine ⟨v', w', hr, ownL_of h2 fun i hi => ?_, ?_⟩
  · rcases hi with hi | hi
    · exact hi.1
    · omega
  · have := grown_aside (S := []) (B := B) (ok := fun i => B ≤ i) h3 (fun k hk => (hown.lt k hk).1) (fun i hi => hi) hBw
    exact this.below fun k hk => by cases hk
/-- append of one thing whose cells name no memory of their own -/
theorem oper_own {α : Type} (T : Kind α) {w : World} {o : Oper} {a : Act} {K : Act → World → Prop} {Q : Exit → Act → World → Prop} (s x : Operand) (t tt : TypeId)
    (ho : o.op = .call { callee := .builtin .append, args := #[s, x], argTypes := #[t, t] }) (ht : Tryd.prog.underlying t = some (.slice T.ty))
    (B : Nat) (v : Value) (l : List α) (hs : a.eval s = v) (hown : OwnL T B w v l) (cs : List Value) (y : α) (hE : T.E (fun i => w.heap.size ≤ i) w cs y) (hx : a.eval x = .slice (some ⟨w.heap.size, 0, none⟩) 1 1)
    (hBw : B ≤ w.heap.size) (hM : (l.length + 1) * T.bytes ≤ 140737488355328) (hm : l.length + 1 ≤ maxLen)
    (h : ∀ v' w', OwnL T B w' v' (l ++ [y]) → Below B w w' → K (a.put o.dst v') w') :
    Oper.wp Tryd.prog o a (w.alloc (.cells cs.toArray tt (0, 0))) K Q := by
  obtain ⟨v', w', hr, h2, h3⟩ := run_own T t tt o.type ht B w.heap.size v l hown cs y hE (.inl (Nat.le_refl _)) hBw hBw hM hm hE
  unfold Oper.wp execOp
  simp only [ho, resolve, invoke, builtin, Sem.run_bind, Sem.run_pure, Result.andThen_ok, List.map_toArray, List.map_cons, List.map_nil, hs, hx, hr]
  exact h v' w' h2 h3
end Go.Proofs.YtgjdkgkgbmbffaaDoor
namespace Go.Proofs.YtgjdkgkgbmbffaaDoor
open Go.RowKit Go.IntWalk
set_option linter.unusedVariables false
set_option linter.unusedSimpArgs false
theorem flat_appK (C D : Nat → List Value) (n : Nat) : ∀ m, flat (fun q => if q < n then C q else D (q - n)) (n + m) = flat C n ++ flat D m
  | 0 => by
    rw [Nat.add_zero, flat_congr (D := C) n (fun q hq => by rw [if_pos hq])]
    simp [flat]
  | m + 1 => by
    rw [← Nat.add_assoc, flat, flat_appK C D n m, flat, if_neg (by omega), List.append_assoc]
    congr 3
    omega
/-- a whole row behind a row of the call's own -/
theorem run_joinO {α : Type} (T : Kind α) {w : World} (t ty : TypeId) (ht : Tryd.prog.underlying t = some (.slice T.ty)) {ok okr : Nat → Prop} {v u : Value} {l r : List α} (hown : OwnX T ok w v l) (hr : HRow T okr w u r)
    (hap : ∀ k, v.ownBlock = some k → ¬ okr k) (hM : (l.length + r.length) * T.bytes ≤ 140737488355328) (hm : l.length + r.length ≤ maxLen) :
    ∃ v' w', (Builtin.append_ #[t, t] ty #[v, u]).run Tryd.prog w = .ok v' w' ∧ OwnX T (fun k => ok k ∨ okr k ∨ w.heap.size ≤ k) w' v' (l ++ r) ∧ w.grownBy w' v.ownBlock ∧ (v'.ownBlock = v.ownBlock ∨ ∃ k, v'.ownBlock = some k ∧ w.heap.size ≤ k) := by
  obtain ⟨i0, hi, hz0, hz1, hz2⟩ := info_parts T.info
  have hown0 := hown
  obtain ⟨D, hrow, hok, hD⟩ := hown
  obtain ⟨C, hS, hC⟩ := hr
  have hS0 := hS
  obtain ⟨ao, cap, rfl, h2, h3, h4⟩ := hS
  have hCl : ∀ i, i < r.length → (C i).length = T.k := fun i hi => T.len (hC i hi)
  have hDl : ∀ i, i < l.length → (D i).length = T.k := fun i hi => T.len (hD i hi)
  cases ao with
  | none =>
    have hr0 : r = [] := by
      cases r with
      | nil => rfl
      | cons x r =>
        obtain ⟨b, o, e, _⟩ := h4 (by simp)
        cases e
    subst hr0
    have hrun : (Builtin.append_ #[t, t] ty #[v, .slice none 0 cap]).run Tryd.prog w = .ok v w := by
      rcases hrow.2 with ⟨rfl, h0⟩ | ⟨g, c, cur, rfl, _, _, hnc, _⟩
      · simp [Builtin.append_, run_underlying ht, sizeOf, typeInfo, hi, Builtin.lenOf, Builtin.firstCells]
      · simp [Builtin.append_, run_underlying ht, sizeOf, typeInfo, hi, Builtin.lenOf, Builtin.firstCells, hnc, storeCells]
    refine ⟨v, w, hrun, ?_, ⟨rfl, rfl, rfl, Nat.le_refl _, fun _ _ _ => rfl⟩, .inl rfl⟩
    rw [List.append_nil]
    exact hown0.wide (fun i hi _ => .inl hi)
  | some a =>
    have hone : ∀ x ∈ flat C r.length, x.oneCell' = true := fun x hx => by
      obtain ⟨i, hi, hx⟩ := flat_mem _ _ hx
      exact T.one (hC i hi) x hx
    have hnews : ∀ j u, (flat C r.length)[j]? = some u → w.cell? (a.add j) = some u := by
      by_cases h0 : 0 < r.length
      · obtain ⟨b, o, e, hb, hbl, hcells⟩ := h4 h0
        injection e with e
        subst e
        exact Sl.news T.pos hS0
      · intro j u hj
        have e : r.length = 0 := by omega
        rw [e] at hj
        simp [flat] at hj
    obtain ⟨v', w', hrun, hrow', hgrow, hmv⟩ := run_push w 0 t ty T.ty i0 T.zero T.k T.bytes ht hi hz0 hz1 hz2 T.zs T.pos v l.length _ hrow a r.length cap (flat C r.length) (flat_len _ hCl) hnews hone hm hM (Nat.zero_le _)
    have hnv : ∀ i, i < w.heap.size → some i ≠ v.ownBlock → some i ≠ v'.ownBlock := by
      intro i hi hne
      rcases hmv with h | ⟨k, hk, hl⟩
      · rw [h]; exact hne
      · rw [hk]
        intro e
        injection e with e
        omega
    refine ⟨v', w', hrun, ⟨fun q => if q < l.length then D q else C (q - l.length), ?_, fun k hk => ?_, fun j hj => ?_⟩, hgrow, hmv⟩
    · rw [List.length_append, flat_appK]
      exact hrow'
    · rcases hmv with h | ⟨k', hk', hl⟩
      · exact .inl (hok k (h ▸ hk))
      · rw [hk] at hk'
        injection hk' with e
        subst e
        exact .inr (.inr hl)
    · by_cases e : j < l.length
      · simp only [if_pos e, List.getElem_append_left e]
        have g0 := T.wide (ok' := fun k => (ok k ∧ some k ≠ v.ownBlock) ∧ k < w.heap.size) (hD j e) (fun k hk hl => ⟨hk, hl⟩)
        have g1 := T.keep g0 hgrow.size (fun k hk hl => hgrow.block k hl hk.1.2)
        exact T.wide g1 (fun k hk _ => ⟨.inl hk.1.1, hnv k hk.2 hk.1.2⟩)
      · have hj2 : j - l.length < r.length := by simp at hj; omega
        simp only [if_neg e, List.getElem_append_right (Nat.le_of_not_lt e)]
        have g0 := T.wide (ok' := fun k => okr k ∧ k < w.heap.size) (hC _ hj2) (fun k hk hl => ⟨hk, hl⟩)
        have g1 := T.keep g0 hgrow.size (fun k hk hl => hgrow.block k hl (fun e => hap k e.symm hk.1))
        exact T.wide g1 (fun k hk _ => ⟨.inr (.inl hk.1), hnv k hk.2 (fun e => hap k e.symm hk.1)⟩)
/-- append, its run being known -/
theorem wpList_joinO {w w' : World} {ops : Array Oper} {rest : List Oper} {o : Oper} {a : Act} {Q : Exit → Act → World → Prop} (hgd : o.guard = none) (s x : Operand) (t : TypeId) (ho : o.op = .call { callee := .builtin .append, args := #[s, x], argTypes := #[t, t] }) (v u v' : Value) (hs : a.eval s = v) (hx : a.eval x = u)
    (hr : (Builtin.append_ #[t, t] o.type #[v, u]).run Tryd.prog w = .ok v' w') (h : wpList Tryd.prog ops Q rest (a.put o.dst v') w') : wpList Tryd.prog ops Q (o :: rest) a w := by
  refine wpList_plain hgd fun _ hK => ?_
  unfold Oper.wp execOp
  simp only [ho, resolve, invoke, builtin, Sem.run_bind, Sem.run_pure, Result.andThen_ok, List.map_toArray, List.map_cons, List.map_nil, hs, hx, hr]
  exact hK _ _ h
theorem oper_joinO {w w' : World} {o : Oper} {a : Act} {K : Act → World → Prop} {Q : Exit → Act → World → Prop} (s x : Operand) (t : TypeId) (ho : o.op = .call { callee := .builtin .append, args := #[s, x], argTypes := #[t, t] }) (v u v' : Value) (hs : a.eval s = v) (hx : a.eval x = u)
    (hr : (Builtin.append_ #[t, t] o.type #[v, u]).run Tryd.prog w = .ok v' w') (h : K (a.put o.dst v') w') : Oper.wp Tryd.prog o a w K Q := by
  unfold Oper.wp execOp
  simp only [ho, resolve, invoke, builtin, Sem.run_bind, Sem.run_pure, Result.andThen_ok, List.map_toArray, List.map_cons, List.map_nil, hs, hx, hr]
  exact h
/-- the last ones of a row -/
theorem row_tail {α : Type} {T : Kind α} {ok : Nat → Prop} {w : World} {ao : Option Addr} {n cap c : Nat} {l : List α} (h : HRow T ok w (.slice ao n cap) l) (hc : c ≤ n) : HRow T ok w (sliced ao c n cap T.k) (l.drop c) := by
  obtain ⟨C, ⟨a, cp, hv, h2, h3, h4⟩, hC⟩ := h
  injection hv with e1 e2 e3
  subst e1 e2 e3
  have hl : (l.drop c).length = l.length - c := List.length_drop
  unfold sliced
  refine ⟨fun i => C (c + i), ⟨_, _, by rw [hl], by omega, by omega, fun h0 => ?_⟩, fun j hj => ?_⟩
  · rw [hl] at h0
    obtain ⟨b, o, rfl, hb, hbl, hcells⟩ := h4 (by omega)
    rw [if_neg (by omega)]
    have adds : (⟨b, o, none⟩ : Addr).add (c * T.k) = ⟨b, o + c * T.k, none⟩ := by unfold Addr.add; split <;> simp_all
    refine ⟨b, o + c * T.k, by rw [Option.map_some, adds], hb, hbl, fun i hi => ?_⟩
    rw [hl] at hi
    have hh := hcells (c + i) (by omega)
    refine ⟨hh.1, fun j hj => ?_⟩
    rw [← hh.2 j hj, Nat.add_mul]
    congr 2
    omega
  · rw [hl] at hj
    have := hC (c + j) (by omega)
    rw [List.getElem_drop]
    exact this
end Go.Proofs.YtgjdkgkgbmbffaaDoor
