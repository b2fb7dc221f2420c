import Derived.Test.YtkgbmgpdehmiiaaDoorV39
import Derived.WalkKit
import Derived.WalkSpells
import Derived.IntWalk
import Derived.Deep.Cut
import Derived.Deep.LoopGhost
import Derived.Laws.Cover1
import Derived.Lib.Hide
set_option linter.unusedVariables false
set_option linter.unusedSimpArgs false
set_option maxHeartbeats 64000000
set_option maxRecDepth 100000
namespace Go.Proofs.YtkgbmgpdehmiiaaDoor
open Go.RowKit Go.IntWalk
set_option linter.unusedVariables false
set_option linter.unusedSimpArgs false
theorem aside_low {S : List Nat} {B : Nat} {w w1 w2 : World} (b : Below B w w1) (a : Aside S w1.heap.size w1 w2) (hB : B ≤ w.heap.size) (h : ∀ i ∈ S, B ≤ i) : Below B w w2 :=
  b.trans ⟨a.os, a.tape, a.output, a.size, fun k hk => a.block k (Nat.lt_of_lt_of_le hk (Nat.le_trans hB b.size)) (fun hm => absurd (h k hm) (by omega))⟩
theorem HInts.below {ok : Nat → Prop} {w w' : World} {v : Value} {l : List Int} (h : HInts ok w v l) (b : Below w.heap.size w w') : HInts ok w' v l := h.under b
theorem HInts.pastS {ok : Nat → Prop} {w w' : World} {v : Value} {l : List Int} (h : HInts ok w v l) {S : List Nat} (a : Aside S w.heap.size w w') (hS : ∀ i, ok i → i ∉ S) : HInts ok w' v l := h.keep a.size fun i hi hl => a.block i hl (hS i hi)
theorem clone25_any {ok : Nat → Prop} {w : World} {v : Value} {l : List Int} (N : Nat) (hl : HInts ok w v l) (hlen : l.length ≤ 1000000) (hN : N ≤ w.heap.size) : Calls Tryd.prog 21 #[v] w fun e w' => ∃ a c, e = .returned (.slice a l.length c) ∧ HInts (fun i => N ≤ i) w' (.slice a l.length c) l ∧ Below w.heap.size w w' := by
  refine (clone53_any (ok := ok) hl hlen).mono ?_
  rintro e w' ⟨v', rfl, o, b⟩
  obtain ⟨a, c, rfl, -, -⟩ := o.form
  exact ⟨a, c, rfl, (ints_row o.row).wide (fun i h _ => Nat.le_trans hN h), b⟩
end Go.Proofs.YtkgbmgpdehmiiaaDoor
