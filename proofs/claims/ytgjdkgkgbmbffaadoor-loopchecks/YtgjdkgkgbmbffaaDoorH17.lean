import Derived.Test.YtgjdkgkgbmbffaaDoorH15
import Derived.Deep.Cut
import Derived.Deep.LoopGhost
import Derived.Ground.NamesProg
import Derived.IntWalk
import Derived.Laws.Cover1
import Derived.Laws.Externs
import Derived.Lib.Hide
import Derived.Lib.MakeNoZero
import Derived.Lib.SlBuf
import Derived.Shelf.Bytes.SlSmallAll
import Derived.Shelf.Lay
import Derived.WalkKit
import Derived.WalkSpells
set_option linter.unusedVariables false
set_option linter.unusedSimpArgs false
set_option maxHeartbeats 64000000
set_option maxRecDepth 100000
namespace Go.Proofs.YtgjdkgkgbmbffaaDoor
open Go.RowKit Go.IntWalk
set_option linter.unusedVariables false
set_option linter.unusedSimpArgs false
theorem ownX_of {α : Type} {T : Kind α} {B : Nat} {w : World} {v : Value} {l : List α} (h : OwnL T B w v l) : OwnX T (fun i => B ≤ i ∧ i < w.heap.size) w v l := by
  have hlt := h.lt
  obtain ⟨D, ⟨h1, h2⟩, h3⟩ := h
  refine ⟨D, ⟨h1, ?_⟩, fun k hk => hlt k hk, fun j hj => T.wide (h3 j hj) fun i hi hl => ⟨⟨hi.1, hl⟩, hi.2⟩⟩
  rcases h2 with h | ⟨g, cap, cur, e1, e2, e3⟩
  · exact .inl h
  · exact .inr ⟨g, cap, cur, e1, Nat.zero_le _, e3⟩
theorem ownL_of {α : Type} {T : Kind α} {ok : Nat → Prop} {B : Nat} {w : World} {v : Value} {l : List α} (h : OwnX T ok w v l) (hk : ∀ i, ok i → B ≤ i) : OwnL T B w v l := by
  obtain ⟨D, ⟨h1, h2⟩, h3, h4⟩ := h
  refine ⟨D, ⟨h1, ?_⟩, fun j hj => T.wide (h4 j hj) fun i hi _ => ⟨hk i hi.1, hi.2⟩⟩
  rcases h2 with h | ⟨g, cap, cur, e1, e2, e3⟩
  · exact .inl h
  · refine .inr ⟨g, cap, cur, e1, hk g (h3 g ?_), e3⟩
    rw [e1]
    rfl
theorem run_own {α : Type} (T : Kind α) {w : World} (t tt ty : TypeId) (ht : Tryd.prog.underlying t = some (.slice T.ty)) (B N : Nat) (v : Value) (l : List α) (hown : OwnL T B w v l) (cs : List Value) (y : α) (hE : T.E (fun i => N ≤ i) w cs y)
    (hNw : w.heap.size ≤ N ∨ (N ≤ w.heap.size ∧ ∀ k, v.ownBlock = some k → k < N ∧ (fun i => B ≤ i ∧ i < N) k)) (hBN : B ≤ N) (hBw : B ≤ w.heap.size) (hM : (l.length + 1) * T.bytes ≤ 140737488355328) (hm : l.length + 1 ≤ maxLen) (hE2 : T.E (fun i => w.heap.size ≤ i) w cs y) :
    ∃ v' w', (Builtin.append_ #[t, t] ty #[v, .slice (some ⟨w.heap.size, 0, none⟩) 1 1]).run Tryd.prog (w.alloc (.cells cs.toArray tt (0, 0))) = .ok v' w' ∧ OwnL T B w' v' (l ++ [y]) ∧ Below B w w' := by
  obtain ⟨v', w', hr, h2, h3⟩ := run_moreX T t tt ty ht w.heap.size _ v l (ownX_of hown) cs y hE2 (fun i hi => hi.2) (Nat.le_refl _) hM hm
  refine ⟨v', w', hr, ownL_of h2 fun i hi => ?_, ?_⟩
  · rcases hi with hi | hi
    · exact hi.1
    · omega
  · have := grown_aside (S := []) (B := B) (ok := fun i => B ≤ i) h3 (fun k hk => (hown.lt k hk).1) (fun i hi => hi) hBw
    exact this.below fun k hk => by cases hk
/-- append of one thing whose cells name no memory of their own -/
theorem oper_own {α : Type} (T : Kind α) {w : World} {o : Oper} {a : Act} {K : Act → World → Prop} {Q : Exit → Act → World → Prop} (s x : Operand) (t tt : TypeId)
    (ho : o.op = .call { callee := .builtin .append, args := #[s, x], argTypes := #[t, t] }) (ht : Tryd.prog.underlying t = some (.slice T.ty))
    (B : Nat) (v : Value) (l : List α) (hs : a.eval s = v) (hown : OwnL T B w v l) (cs : List Value) (y : α) (hE : T.E (fun i => w.heap.size ≤ i) w cs y) (hx : a.eval x = .slice (some ⟨w.heap.size, 0, none⟩) 1 1)
    (hBw : B ≤ w.heap.size) (hM : (l.length + 1) * T.bytes ≤ 140737488355328) (hm : l.length + 1 ≤ maxLen)
    (h : ∀ v' w', OwnL T B w' v' (l ++ [y]) → Below B w w' → K (a.put o.dst v') w') :
    Oper.wp Tryd.prog o a (w.alloc (.cells cs.toArray tt (0, 0))) K Q := by
  obtain ⟨v', w', hr, h2, h3⟩ := run_own T t tt o.type ht B w.heap.size v l hown cs y hE (.inl (Nat.le_refl _)) hBw hBw hM hm hE
  unfold Oper.wp execOp
  simp only [ho, resolve, invoke, builtin, Sem.run_bind, Sem.run_pure, Result.andThen_ok, List.map_toArray, List.map_cons, List.map_nil, hs, hx, hr]
  exact h v' w' h2 h3
end Go.Proofs.YtgjdkgkgbmbffaaDoor
