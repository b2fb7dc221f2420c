import Derived.Test.YtkgbmgpdehmiiaaDoorY04
import Derived.WalkKit
import Derived.WalkSpells
import Derived.IntWalk
import Derived.Lib.Hide
set_option linter.unusedVariables false
set_option linter.unusedSimpArgs false
set_option maxHeartbeats 64000000
set_option maxRecDepth 100000
namespace Go.Proofs.YtkgbmgpdehmiiaaDoor
open Go.RowKit Go.IntWalk
set_option linter.unusedVariables false
set_option linter.unusedSimpArgs false
/-- v is a row of the call's own that holds l; it and what it holds lie in blocks that 'ok' lets by -/
def OwnX {α : Type} (T : Kind α) (ok : Nat → Prop) (w : World) (v : Value) (l : List α) : Prop :=
  ∃ D, w.ownsRow 0 T.ty T.k v l.length (flat D l.length) ∧ (∀ k, v.ownBlock = some k → ok k) ∧ ∀ j (h : j < l.length), T.E (fun i => ok i ∧ some i ≠ v.ownBlock) w (D j) l[j]
theorem OwnX.nil {α : Type} {T : Kind α} {ok : Nat → Prop} {w : World} : OwnX T ok w (.slice none 0 0) [] :=
  ⟨fun _ => [], World.ownsRow_nil _ _ _ _, fun k hk => (by cases hk), fun j h => absurd h (Nat.not_lt_zero _)⟩
theorem OwnX.lt {α : Type} {T : Kind α} {ok : Nat → Prop} {w : World} {v : Value} {l : List α} (h : OwnX T ok w v l) : ∀ k, v.ownBlock = some k → ok k ∧ k < w.heap.size := by
  obtain ⟨D, h1, h2, h3⟩ := h
  exact fun k hk => ⟨h2 k hk, (World.ownsRow.lt h1 k hk).2⟩
theorem OwnX.form {α : Type} {T : Kind α} {ok : Nat → Prop} {w : World} {v : Value} {l : List α} (h : OwnX T ok w v l) : ∃ a c, v = .slice a l.length c ∧ l.length ≤ c ∧ c ≤ maxLen := by
  obtain ⟨D, h1, h2⟩ := h
  rcases h1.2 with ⟨rfl, h0⟩ | ⟨g, cap, cur, rfl, hb, hg, hnc, hcm, _⟩
  · exact ⟨none, 0, by rw [h0], by omega, by unfold maxLen; omega⟩
  · exact ⟨_, _, rfl, hnc, hcm⟩
theorem OwnX.keep {α : Type} {T : Kind α} {ok : Nat → Prop} {w w' : World} {v : Value} {l : List α} (h : OwnX T ok w v l) (hs : w.heap.size ≤ w'.heap.size) (hk : ∀ i, ok i → i < w.heap.size → w'.heap[i]? = w.heap[i]?) : OwnX T ok w' v l := by
  obtain ⟨D, h1, h2, h3⟩ := h
  refine ⟨D, ⟨h1.1, ?_⟩, h2, fun j hj => T.keep (h3 j hj) hs fun i hi hl => hk i hi.1 hl⟩
  rcases h1.2 with h0 | ⟨g, cap, cur, rfl, hb, hg, hr⟩
  · exact .inl h0
  · exact .inr ⟨g, cap, cur, rfl, hb, (hk g (h2 g rfl) (lt_of hg)).trans hg, hr⟩
theorem OwnX.wide {α : Type} {T : Kind α} {ok ok' : Nat → Prop} {w : World} {v : Value} {l : List α} (h : OwnX T ok w v l) (hk : ∀ i, ok i → i < w.heap.size → ok' i) : OwnX T ok' w v l := by
  obtain ⟨D, h1, h2, h3⟩ := h
  exact ⟨D, h1, fun k hq => hk k (h2 k hq) (World.ownsRow.lt h1 k hq).2, fun j hj => T.wide (h3 j hj) fun i hi hl => ⟨hk i hi.1 hl, hi.2⟩⟩
theorem OwnX.under {α : Type} {T : Kind α} {ok : Nat → Prop} {w w' : World} {v : Value} {l : List α} (h : OwnX T ok w v l) (hb : Below w.heap.size w w') : OwnX T ok w' v l := h.keep hb.size fun i _ hl => hb.block i hl
theorem OwnX.set {α : Type} {T : Kind α} {ok : Nat → Prop} {w : World} {v : Value} {l : List α} (h : OwnX T ok w v l) {p : Addr} (hp : ¬ ok p.block) (u : Value) : OwnX T ok (w.setCell p u) v l :=
  h.keep (by simp [World.setCell]) fun i hi hl => Below.heap_setCell _ _ _ _ (fun e => hp (e ▸ hi))
theorem OwnX.row {α : Type} {T : Kind α} {ok : Nat → Prop} {w : World} {v : Value} {l : List α} (h : OwnX T ok w v l) : HRow T ok w v l := by
  obtain ⟨D, h1, h2, h3⟩ := h
  obtain ⟨ao, cap, hv, q1, q2, q3⟩ := owns_sl h1 (fun i hi => T.len (h3 i hi))
  refine ⟨D, ⟨ao, cap, hv, q1, q2, fun hn => ?_⟩, fun j hj => T.wide (h3 j hj) fun i hi _ => hi.1⟩
  obtain ⟨b, o, ha, _, hb, hc⟩ := q3 hn
  refine ⟨b, o, ha, ?_, hb, hc⟩
  obtain ⟨g, cap', hv', _⟩ := owns_pos h1 hn
  rw [hv] at hv'
  injection hv' with e1 e2 e3
  rw [ha] at e1
  injection e1 with e1
  injection e1 with e4 e5 e6
  exact h2 b (by rw [hv, ha, e5]; simp [Value.ownBlock])
/-- append of one thing to a row of the call's own: the thing lies in new memory -/
theorem run_moreX {α : Type} (T : Kind α) {w : World} (t tt ty : TypeId) (ht : Tryd.prog.underlying t = some (.slice T.ty))
    (N : Nat) (ok : Nat → Prop) (v : Value) (l : List α) (hown : OwnX T ok w v l) (cs : List Value) (y : α) (hE : T.E (fun i => N ≤ i) w cs y)
    (hN : ∀ i, ok i → i < N) (hNw : N ≤ w.heap.size) (hM : (l.length + 1) * T.bytes ≤ 140737488355328) (hm : l.length + 1 ≤ maxLen) :
    ∃ v' w', (Builtin.append_ #[t, t] ty #[v, .slice (some ⟨w.heap.size, 0, none⟩) 1 1]).run Tryd.prog (w.alloc (.cells cs.toArray tt (0, 0))) = .ok v' w' ∧ OwnX T (fun i => ok i ∨ N ≤ i) w' v' (l ++ [y]) ∧ (w.alloc (.cells cs.toArray tt (0, 0))).grownBy w' v.ownBlock := by
  obtain ⟨i0, hi, hz0, hz1, hz2⟩ := info_parts T.info
  have hown1 := hown.under ((Below.refl _ w).alloc (Nat.le_refl _) (.cells cs.toArray tt (0, 0)))
  obtain ⟨D, hrow, hvb, hD⟩ := hown1
  have hl := T.len hE
  obtain ⟨v', w', hrun, hrow', hgrow, hmv⟩ := run_push (P := Tryd.prog) (w.alloc (.cells cs.toArray tt (0, 0))) 0 t ty T.ty i0 T.zero T.k T.bytes ht hi hz0 hz1 hz2 T.zs T.pos v l.length _ hrow ⟨w.heap.size, 0, none⟩ 1 1 cs (by simp [hl]) (cells_new w cs tt) (T.one hE) hm hM (by simp)
  have hmv' : v'.ownBlock = v.ownBlock ∨ ∃ k, v'.ownBlock = some k ∧ w.heap.size + 1 ≤ k := by
    rcases hmv with h | ⟨k, h1, h2⟩
    · exact .inl h
    · exact .inr ⟨k, h1, by simpa using h2⟩
  have hgk : ∀ k, some k ≠ v.ownBlock → k < (w.alloc (.cells cs.toArray tt (0, 0))).heap.size → w'.heap[k]? = (w.alloc (.cells cs.toArray tt (0, 0))).heap[k]? := fun k hk hl => hgrow.block k hl hk
  have hoff : ∀ i, some i ≠ v.ownBlock → i < w.heap.size + 1 → some i ≠ v'.ownBlock := fun i h1 h2 e => by
    rcases hmv' with h | ⟨k, hk, hz⟩
    · exact h1 (e.trans h)
    · rw [hk] at e
      injection e with e
      omega
  refine ⟨v', w', hrun, ⟨fun q => if q = l.length then cs else D q, ?_, ?_, fun j hj => ?_⟩, hgrow⟩
  · have e : flat (fun q => if q = l.length then cs else D q) (l.length + 1) = flat D l.length ++ cs := by
      rw [flat, flat_congr (D := D) l.length (fun q hq => by rw [if_neg (by omega)])]
      simp
    rw [List.length_append, List.length_singleton, e]
    exact hrow'
  · intro k hk
    rcases hmv' with h | ⟨q, hq, hz⟩
    · exact .inl (hvb k (h.symm.trans hk))
    · rw [hq] at hk
      injection hk with hk
      exact .inr (by omega)
  · by_cases e : j = l.length
    · subst e
      simp only [if_true, List.getElem_append_right (Nat.le_refl _), Nat.sub_self, List.getElem_cons_zero]
      have g0 := T.keep (w' := w.alloc (.cells cs.toArray tt (0, 0))) hE (by simp) fun i _ hl => Below.heap_alloc _ _ _ hl
      have g1 := T.wide (ok' := fun k => N ≤ k ∧ some k ≠ v.ownBlock ∧ k < w.heap.size + 1) g0 (fun k hk hl => ⟨hk, fun e => by have := hN k (hvb k e.symm); omega, by simpa using hl⟩)
      have g2 := T.keep g1 hgrow.size (fun k hk hl => hgk k hk.2.1 hl)
      exact T.wide g2 (fun k hk _ => ⟨.inr hk.1, hoff k hk.2.1 hk.2.2⟩)
    · have hjl : j < l.length := by simp at hj; omega
      simp only [if_neg e, List.getElem_append_left hjl]
      have g1 := T.wide (ok' := fun k => ok k ∧ some k ≠ v.ownBlock ∧ k < w.heap.size + 1) (hD j hjl) (fun k hk hl => ⟨hk.1, hk.2, by simpa using hl⟩)
      have g2 := T.keep g1 hgrow.size (fun k hk hl => hgk k hk.2.1 hl)
      exact T.wide g2 (fun k hk _ => ⟨.inl hk.1, hoff k hk.2.1 hk.2.2⟩)
/-- .. as one operation of a region -/
theorem oper_moreX {α : Type} (T : Kind α) {w : World} {o : Oper} {a : Act} {K : Act → World → Prop} {Q : Exit → Act → World → Prop} (s x : Operand) (t tt : TypeId)
    (ho : o.op = .call { callee := .builtin .append, args := #[s, x], argTypes := #[t, t] }) (ht : Tryd.prog.underlying t = some (.slice T.ty))
    (N : Nat) (ok : Nat → Prop) (v : Value) (l : List α) (hs : a.eval s = v) (hown : OwnX T ok w v l) (cs : List Value) (y : α) (hE : T.E (fun i => N ≤ i) w cs y) (hx : a.eval x = .slice (some ⟨w.heap.size, 0, none⟩) 1 1)
    (hN : ∀ i, ok i → i < N) (hNw : N ≤ w.heap.size) (hM : (l.length + 1) * T.bytes ≤ 140737488355328) (hm : l.length + 1 ≤ maxLen)
    (h : ∀ v' w', OwnX T (fun i => ok i ∨ N ≤ i) w' v' (l ++ [y]) → (w.alloc (.cells cs.toArray tt (0, 0))).grownBy w' v.ownBlock → K (a.put o.dst v') w') :
    Oper.wp Tryd.prog o a (w.alloc (.cells cs.toArray tt (0, 0))) K Q := by
  obtain ⟨v', w', hr, h2, h3⟩ := run_moreX T t tt o.type ht N ok v l hown cs y hE hN hNw hM hm
  unfold Oper.wp execOp
  simp only [ho, resolve, invoke, builtin, Sem.run_bind, Sem.run_pure, Result.andThen_ok, List.map_toArray, List.map_cons, List.map_nil, hs, hx, hr]
  exact h v' w' h2 h3
end Go.Proofs.YtkgbmgpdehmiiaaDoor
namespace Go.Proofs.YtkgbmgpdehmiiaaDoor
open Go.RowKit Go.IntWalk
set_option linter.unusedVariables false
set_option linter.unusedSimpArgs false
/-- two may come up -/
theorem wpAnyL_two {P : Program} {ops : Array Oper} {Q : Exit → Act → World → Prop} {md : Region.Mode} {S : World → Prop} {late : Nat → Bool} {i j : Nat} {oi oj : Oper} {fuel : Nat} {listed : Array Bool} {a : Act} {w : World} (hoi : ops[i]? = some oi) (hoj : ops[j]? = some oj) (hr : Region.ready md ops listed = [i, j])
    (hwi : Region.wanted oi (yielded ops a.tmps) = true) (hwj : Region.wanted oj (yielded ops a.tmps) = true)
    (h1 : ∀ K' : Act → World → Prop, Shut (∀ a w, (late i = false → S w) → wpAnyL P md ops Q S late fuel (listed.setIfInBounds i true) a w → K' a w) → Oper.wp P oi a w K' Q)
    (h2 : ∀ K' : Act → World → Prop, Shut (∀ a w, (late j = false → S w) → wpAnyL P md ops Q S late fuel (listed.setIfInBounds j true) a w → K' a w) → Oper.wp P oj a w K' Q) : wpAnyL P md ops Q S late (fuel + 1) listed a w := by
  refine ⟨fun h0 => (by rw [hr] at h0; cases h0), fun q hq => ?_⟩
  rw [hr] at hq
  simp at hq
  rcases hq with rfl | rfl
  · refine wpOp_step hoi (fun K' hK => ?_)
    rw [if_pos hwi]
    exact h1 K' (fun a w hS hW => hK a w ⟨hS, hW⟩)
  · refine wpOp_step hoj (fun K' hK => ?_)
    rw [if_pos hwj]
    exact h2 K' (fun a w hS hW => hK a w ⟨hS, hW⟩)
end Go.Proofs.YtkgbmgpdehmiiaaDoor
namespace Go.Proofs.YtkgbmgpdehmiiaaDoor
open Go.RowKit Go.IntWalk
set_option linter.unusedVariables false
set_option linter.unusedSimpArgs false
def tr (b : Bool) : Int := if b = true then 1 else 0
/-- what an operator makes of two numbers -/
def apT (k a b : Int) : Int :=
  if k = 1 then wrap64 (a + b) else if k = 2 then wrap64 (a - b) else if k = 3 then wrap64 (a * b)
  else if k = 4 then (if b = 0 then 0 else wrap64 (a.tdiv b)) else if k = 5 then (if b = 0 then 0 else a.tmod b)
  else if k = 6 then min a b else if k = 7 then max a b else if k = 8 then tr (decide (a < b)) else if k = 9 then tr (decide (a = b))
  else if k = 10 then tr (decide (a ≠ 0 ∧ b ≠ 0)) else if k = 11 then tr (decide (a ≠ 0 ∨ b ≠ 0)) else if k = 12 then tr (decide (¬ (a = 0 ↔ b = 0)))
  else if k = 13 then wrap64 (-a) else if k = 14 then tr (decide (a = 0)) else 0
end Go.Proofs.YtkgbmgpdehmiiaaDoor
namespace Go.Proofs.YtkgbmgpdehmiiaaDoor
open Go.RowKit Go.IntWalk
set_option linter.unusedVariables false
set_option linter.unusedSimpArgs false
namespace Sk
def when (b : Bool) (e : Int) : Int := if b = true then e else 0
end Sk
theorem wpAnyL_skip {P : Program} {ops : Array Oper} {Q : Exit → Act → World → Prop} {md : Region.Mode} {S : World → Prop} {late : Nat → Bool} {i : Nat} {oi : Oper} {fuel : Nat} {listed : Array Bool} {a : Act} {w : World} (hi : ops[i]? = some oi)
    (hs : Region.noSelect ops = true) (hf : Region.free md ops listed i = true) (hr : (Region.ready md ops listed).contains i = true) (hl : waitFor md ops late listed i = true)
    (hQ : ∀ c a w, Q (.panic c) (a.put oi.dst undef) w → Q (.panic c) a w) (hS : S w) (hw : Region.wanted oi (yielded ops a.tmps) = false)
    (h : wpAnyL P md ops Q S late fuel (listed.setIfInBounds i true) (a.put oi.dst undef) w) : wpAnyL P md ops Q S late (fuel + 1) listed a w :=
  wpAnyL_first hi (Region.noSelect_spec hs) hQ fuel listed a w (Region.free_spec hi hf) (waitFor_spec hl) (by simpa using hr) (.inr ⟨hw, rfl⟩) hS h
end Go.Proofs.YtkgbmgpdehmiiaaDoor
namespace Go.Proofs.YtkgbmgpdehmiiaaDoor
open Go.RowKit Go.IntWalk
set_option linter.unusedVariables false
set_option linter.unusedSimpArgs false
theorem drewN_below {B : Nat} {w w' : World} (h : Below B w w') (n : Nat) : Below B w (w'.drewN n) := ⟨h.os, h.tape, h.output, h.size, h.block⟩
namespace Kd
/-- the operators: what each takes, makes, and how many -/
def opsT : List (Int × Int × Int) := [(0, 0, 0), (105, 105, 2), (105, 105, 2), (105, 105, 2), (105, 105, 2), (105, 105, 2), (105, 105, 2), (105, 105, 2), (105, 98, 2), (105, 98, 2), (98, 98, 2), (98, 98, 2), (98, 98, 2), (105, 105, 1), (98, 98, 1)]
def opN (k : Nat) : Int × Int × Int := opsT.getD k (0, 0, 0)
def opT (k : Int) : Int × Int × Int := if k < 0 ∨ 15 ≤ k then (0, 0, 0) else opN k.toNat
def folds (k : Int) : Bool := decide ((opT k).2.2 = 2) && decide ((opT k).1 = (opT k).2.1)
end Kd
/-- the table of operators, as the program's text lays it -/
def GlobK (w : World) : Prop := 0 < w.heap.size ∧ ∀ k, k < 15 → w.cell? ⟨0, k * 3, none⟩ = some (.int .u8 (Kd.opN k).1) ∧ w.cell? ⟨0, k * 3 + 1, none⟩ = some (.int .u8 (Kd.opN k).2.1) ∧ w.cell? ⟨0, k * 3 + 2, none⟩ = some (.int .i64 (Kd.opN k).2.2)
theorem GlobK.under {w w' : World} (h : GlobK w) (b : Below w.heap.size w w') : GlobK w' := by
  refine ⟨Nat.lt_of_lt_of_le h.1 b.size, fun k hk => ?_⟩
  obtain ⟨h0, h1, h2⟩ := h.2 k hk
  exact ⟨(b.cell (p := ⟨0, k * 3, none⟩) h.1).trans h0, (b.cell (p := ⟨0, k * 3 + 1, none⟩) h.1).trans h1, (b.cell (p := ⟨0, k * 3 + 2, none⟩) h.1).trans h2⟩
set_option maxHeartbeats 2000000 in
theorem op_any (k : Int) (w : World) (hG : GlobK w) :
    Calls Tryd.prog 62 #[.int .i64 k] w fun r w' => r = .returned (.tuple #[.int .u8 (Kd.opT k).1, .int .u8 (Kd.opT k).2.1, .int .i64 (Kd.opT k).2.2]) ∧ Below w.heap.size w w' := by
  unfold Kd.opT
  by_cases h1 : k < 0
  · rw [if_pos (.inl h1)]
    go_enter Tryd.func62, Tryd.ntmps62
    go_wp2
    exact bodyPost_ret (v := .tuple #[.int .u8 0, .int .u8 0, .int .i64 0]) (by simp [results, Tryd.results62, go_sem]) rfl ⟨rfl, Below.refl _ _⟩
  · by_cases h2 : 15 ≤ k
    · rw [if_pos (.inr h2)]
      have h3 : (15 : Int) ≤ k := h2
      go_enter Tryd.func62, Tryd.ntmps62
      go_wp2
      exact bodyPost_ret (v := .tuple #[.int .u8 0, .int .u8 0, .int .i64 0]) (by simp [results, Tryd.results62, go_sem]) rfl ⟨rfl, Below.refl _ _⟩
    · rw [if_neg (by omega)]
      obtain ⟨q, rfl⟩ : ∃ q : Nat, k = (q : Int) := ⟨k.toNat, by omega⟩
      have hq : q < 15 := by omega
      obtain ⟨c0, c1, c2⟩ := hG.2 q hq
      rw [Int.toNat_natCast]
      generalize Kd.opN q = oq at c0 c1 c2 ⊢
      obtain ⟨tk, mk, n⟩ := oq
      dsimp only at c0 c1 c2 ⊢
      have bA : Below w.heap.size w (w.alloc (.cells #[.int .u8 tk, .int .u8 mk, .int .i64 n] 102 (0, 0))) := (Below.refl _ _).alloc (Nat.le_refl _) _
      have kA := heap_new w (.cells #[.int .u8 tk, .int .u8 mk, .int .i64 n] 102 (0, 0))
      go_enter Tryd.func62, Tryd.ntmps62
      go_upto_region 4 with fail
      generalize w.alloc (.cells #[.int .u8 tk, .int .u8 mk, .int .i64 n] 102 (0, 0)) = w1 at bA kA ⊢
      have d0 := cell_of kA 0
      have d1 := cell_of kA 1
      have d2 := cell_of kA 2
      simp at d0 d1 d2
      clear c0 c1 c2 kA
      go_quiet (fail)
      go_wp2
      exact bodyPost_ret (v := .tuple #[.int .u8 tk, .int .u8 mk, .int .i64 n]) (by simp [results, Tryd.results62, go_sem]) rfl ⟨rfl, drewN_below bA _⟩
end Go.Proofs.YtkgbmgpdehmiiaaDoor
