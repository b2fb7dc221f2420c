import Derived.Test.YtbiomnnlpafciaaDoorS18
import Derived.Test.YtbiomnnlpafciaaDoorS08
import Derived.WalkKit
import Derived.WalkSpells
import Derived.IntWalk
import Derived.Deep.Cut
import Derived.Deep.LoopGhost
import Derived.Laws.Cover1
import Derived.Lib.Hide
set_option linter.unusedVariables false
set_option linter.unusedSimpArgs false
set_option maxHeartbeats 64000000
set_option maxRecDepth 100000
namespace Go.Proofs.YtbiomnnlpafciaaDoor
open Go.RowKit Go.IntWalk
set_option linter.unusedVariables false
set_option linter.unusedSimpArgs false
theorem OwnL.made {w : World} {B : Nat} (hb : B ≤ w.heap.size) (cur : Array Value) (cap : Nat) (hm : cap ≤ maxLen) (hs : cur.size = cap * 1) : OwnL kLong B (w.alloc (.cells cur 2 (0, 0))) (.slice (some ⟨w.heap.size, 0, none⟩) 0 cap) [] :=
  ⟨fun _ => [], World.ownsRow_made w cur cap hb hm hs, fun j h => absurd h (Nat.not_lt_zero _)⟩
end Go.Proofs.YtbiomnnlpafciaaDoor
namespace Go.Proofs.YtbiomnnlpafciaaDoor
open Go.RowKit Go.IntWalk
set_option linter.unusedVariables false
set_option linter.unusedSimpArgs false
theorem aside_cell {S : List Nat} {B : Nat} {w w' : World} (a : Aside S B w w') {p : Addr} (h : p.block < B) (hs : p.block ∉ S) : w'.cell? p = w.cell? p := World.cell?_of_block (a.block _ h hs)
/-- cells in block g -/
def LB (w : World) (g : Nat) (l : List Int) : Prop := w.heap[g]? = some (.cells (l.map (Value.int .i64)).toArray 2 (0, 0))
theorem LB.lt {w : World} {g : Nat} {l : List Int} (h : LB w g l) : g < w.heap.size := lt_of h
theorem LB.keep {w w' : World} {g : Nat} {l : List Int} (h : LB w g l) (hk : w'.heap[g]? = w.heap[g]?) : LB w' g l := hk.trans h
theorem LB.under {w w' : World} {g : Nat} {l : List Int} (h : LB w g l) (b : Below w.heap.size w w') : LB w' g l := h.keep (b.block _ h.lt)
theorem LB.at {w : World} {g : Nat} {l : List Int} (h : LB w g l) {i : Nat} (hi : i < l.length) : w.cell? ⟨g, i, none⟩ = some (.int .i64 l[i]) := by
  unfold LB at h
  rw [cell_of h i]
  simp [hi]
theorem LB.set {w : World} {g : Nat} {l : List Int} (h : LB w g l) (i : Nat) (x : Int) : LB (w.setCell ⟨g, i, none⟩ (.int .i64 x)) g (l.set i x) := by
  unfold LB at h ⊢
  rw [set_in h i (.int .i64 x)]
  simp [List.map_set]
end Go.Proofs.YtbiomnnlpafciaaDoor
namespace Go.Proofs.YtbiomnnlpafciaaDoor
open Go.RowKit Go.IntWalk
set_option linter.unusedVariables false
set_option linter.unusedSimpArgs false
/-- n steps in block g, what they have elsewhere -/
def StepsAt (w : World) (g : Nat) (z : Nat → Prop) (n : Nat) (Q : Nat → Lo.Sp) : Prop := ∃ cur : Array Value, w.heap[g]? = some (.cells cur 62 (0, 0)) ∧ n * 6 ≤ cur.size ∧ ∀ j, j < n → ∃ y : SpV, SpAt w g (j * 6) (Q j) y ∧ HSp (fun b => b ≠ g ∧ z b) w y (Q j)
theorem SpAt.keep {w w' : World} {g o : Nat} {s : Lo.Sp} {y : SpV} (h : SpAt w g o s y) (hk : w'.heap[g]? = w.heap[g]?) : SpAt w' g o s y := by
  have e : ∀ p, w'.cell? ⟨g, p, none⟩ = w.cell? ⟨g, p, none⟩ := fun p => World.cell?_of_block hk
  obtain ⟨h0, h1, h2, h3, h4, h5⟩ := h
  exact ⟨(e _).trans h0, (e _).trans h1, (e _).trans h2, (e _).trans h3, (e _).trans h4, (e _).trans h5⟩
theorem StepsAt.lt {w : World} {g n : Nat} {z : Nat → Prop} {Q : Nat → Lo.Sp} (h : StepsAt w g z n Q) : g < w.heap.size := by
  obtain ⟨cur, h1, -, -⟩ := h
  exact lt_of h1
theorem StepsAt.under {w w' : World} {g n : Nat} {z : Nat → Prop} {Q : Nat → Lo.Sp} (h : StepsAt w g z n Q) (b : Below w.heap.size w w') : StepsAt w' g z n Q := by
  obtain ⟨cur, h1, h2, h3⟩ := h
  refine ⟨cur, (b.block _ (lt_of h1)).trans h1, h2, fun j hj => ?_⟩
  obtain ⟨y, hy, hz⟩ := h3 j hj
  exact ⟨y, hy.keep (b.block _ (lt_of h1)), hz.under b⟩
theorem StepsAt.of {ok : Nat → Prop} {z : Nat → Prop} (hz : ∀ i, ok i → z i) {w : World} {v : Value} {l : List Lo.Sp} (h : OwnX kSp ok w v l) (hl : 0 < l.length) : ∃ g c, v = .slice (some ⟨g, 0, none⟩) l.length c ∧ l.length ≤ c ∧ c ≤ maxLen ∧ StepsAt w g z l.length (fun j => l.getD j ⟨0, 0, 0, 0, [], []⟩) := by
  obtain ⟨D, h1, h2, h3⟩ := h
  obtain ⟨g, cap, hv, q1, q2, q3, q4, q5⟩ := owns_pos h1 hl
  have h1b := h1.2
  rcases h1b with ⟨e0, e1⟩ | ⟨g', cap', cur, e1, e2, e3, e4, e5, e6, e7⟩
  · omega
  · subst e1
    refine ⟨g', cap', rfl, e4, e5, cur, e3, by rw [e6]; exact Nat.mul_le_mul_right 6 e4, fun j hj => ?_⟩
    obtain ⟨y, ey, hy⟩ := h3 j hj
    have hq : l.getD j ⟨0, 0, 0, 0, [], []⟩ = l[j] := by rw [List.getD_eq_getElem?_getD, List.getElem?_eq_getElem hj]; rfl
    show ∃ y, SpAt w g' (j * 6) (l.getD j ⟨0, 0, 0, 0, [], []⟩) y ∧ HSp (fun b => b ≠ g' ∧ z b) w y (l.getD j ⟨0, 0, 0, 0, [], []⟩)
    rw [hq]
    have hg : ∀ i, i < 6 → w.cell? ⟨g', j * 6 + i, none⟩ = (D j)[i]? := fun i hi => by
      have e8 := flat_get (k := 6) l.length (fun i hi => kSp.len (h3 i hi)) j i hj hi
      have e9 : cur.toList[j * 6 + i]? = (flat D l.length)[j * 6 + i]? := by
        rw [← e7, List.getElem?_take_of_lt]
        show j * 6 + i < l.length * 6
        omega
      rw [cell_of e3, ← Array.getElem?_toList, e9, e8]
    rw [ey] at hg
    refine ⟨y, ⟨hg 0 (by decide), hg 1 (by decide), hg 2 (by decide), hg 3 (by decide), hg 4 (by decide), hg 5 (by decide)⟩, hy.wide fun i hi _ => ?_⟩
    have := hi.2
    exact ⟨fun e => this (by rw [e]; rfl), hz _ hi.1⟩
theorem StepsAt.row {w : World} {g n c : Nat} {z : Nat → Prop} {Q : Nat → Lo.Sp} {l : List Lo.Sp} (h : StepsAt w g z n Q) (hn : n = l.length) (hQ : ∀ j (h : j < l.length), Q j = l[j]) (h1 : n ≤ c) (h2 : c ≤ maxLen) (hgz : z g) : HSps z w (.slice (some ⟨g, 0, none⟩) n c) l := by
  classical
  obtain ⟨cur, e1, e2, e3⟩ := h
  subst hn
  obtain ⟨f, hf⟩ : ∃ f : Nat → SpV, ∀ j (hj : j < l.length), SpAt w g (j * 6) l[j] (f j) ∧ HSp (fun b => b ≠ g ∧ z b) w (f j) l[j] := by
    have e4 : ∀ j (hj : j < l.length), ∃ y, SpAt w g (j * 6) l[j] y ∧ HSp (fun b => b ≠ g ∧ z b) w y l[j] := fun j hj => by
      rw [← hQ j hj]
      exact e3 j hj
    refine ⟨fun j => if hj : j < l.length then Classical.choose (e4 j hj) else ⟨none, 0, 0, none, 0, 0⟩, fun j hj => ?_⟩
    have := Classical.choose_spec (e4 j hj)
    simpa only [dif_pos hj] using this
  refine ⟨fun j => scs (l.getD j ⟨0, 0, 0, 0, [], []⟩) (f j), ⟨_, _, rfl, h1, h2, fun h0 => ⟨g, 0, rfl, hgz, lt_of e1, fun j hj => ⟨rfl, fun i hi => ?_⟩⟩⟩, fun j hj => ⟨f j, ?_, (hf j hj).2.wide fun i hi _ => hi.2⟩⟩
  · have hq : l.getD j ⟨0, 0, 0, 0, [], []⟩ = l[j] := by rw [List.getD_eq_getElem?_getD, List.getElem?_eq_getElem hj]; rfl
    show w.cell? ⟨g, 0 + j * 6 + i, none⟩ = (scs (l.getD j ⟨0, 0, 0, 0, [], []⟩) (f j))[i]?
    rw [hq]
    obtain ⟨c0, c1, c2, c3, c4, c5⟩ := (hf j hj).1
    rw [Nat.zero_add]
    have hi2 : i = 0 ∨ i = 1 ∨ i = 2 ∨ i = 3 ∨ i = 4 ∨ i = 5 := by omega
    rcases hi2 with rfl | rfl | rfl | rfl | rfl | rfl
    · exact c0
    · exact c1
    · exact c2
    · exact c3
    · exact c4
    · exact c5
  · show scs (l.getD j ⟨0, 0, 0, 0, [], []⟩) (f j) = scs l[j] (f j)
    rw [List.getD_eq_getElem?_getD, List.getElem?_eq_getElem hj]
    rfl
end Go.Proofs.YtbiomnnlpafciaaDoor
namespace Go.Proofs.YtbiomnnlpafciaaDoor
open Go.RowKit Go.IntWalk
set_option linter.unusedVariables false
set_option linter.unusedSimpArgs false
namespace Lo
/-- a step without the tree that is not looked at -/
def ownS (s : Sp) : Sp := ⟨s.op, s.k, s.n, s.tgt, if folds s then s.F else [], s.E⟩
def d0 : Sp := ⟨0, 0, 0, 0, [], []⟩
end Lo
end Go.Proofs.YtbiomnnlpafciaaDoor
namespace Go.Proofs.YtbiomnnlpafciaaDoor
open Go.RowKit Go.IntWalk
set_option linter.unusedVariables false
set_option linter.unusedSimpArgs false
namespace Lo
end Lo
structure OwnR (N0 cw hi : Nat) (w : World) (a1 a2 a3 : Option Addr) (c1 c2 c3 : Nat) (P G : List Int) (S : List Lo.Sp) : Prop where
  P : HInts (fun i => i < N0 ∨ (cw ≤ i ∧ i < hi)) w (.slice a1 P.length c1) P
  G : HInts (fun i => i < N0 ∨ (cw ≤ i ∧ i < hi)) w (.slice a2 G.length c2) G
  S : HSps (fun i => i < N0 ∨ (cw ≤ i ∧ i < hi)) w (.slice a3 S.length c3) (S.map Lo.ownS)
theorem OwnR.of {N0 cw : Nat} {w : World} {a1 a2 a3 : Option Addr} {c1 c2 c3 : Nat} {P G : List Int} {S : List Lo.Sp} (o1 : HInts (fun i => i < N0 ∨ cw ≤ i) w (.slice a1 P.length c1) P) (o2 : HInts (fun i => i < N0 ∨ cw ≤ i) w (.slice a2 G.length c2) G) (o3 : HSps (fun i => i < N0 ∨ cw ≤ i) w (.slice a3 S.length c3) (S.map Lo.ownS)) : OwnR N0 cw w.heap.size w a1 a2 a3 c1 c2 c3 P G S :=
  ⟨o1.wide fun i h hl => h.elim .inl fun h => .inr ⟨h, hl⟩, o2.wide fun i h hl => h.elim .inl fun h => .inr ⟨h, hl⟩, o3.wide fun i h hl => h.elim .inl fun h => .inr ⟨h, hl⟩⟩
theorem OwnR.below {N0 cw hi : Nat} {w w' : World} {a1 a2 a3 : Option Addr} {c1 c2 c3 : Nat} {P G : List Int} {S : List Lo.Sp} (h : OwnR N0 cw hi w a1 a2 a3 c1 c2 c3 P G S) (b : Below w.heap.size w w') : OwnR N0 cw hi w' a1 a2 a3 c1 c2 c3 P G S := ⟨h.P.under b, h.G.under b, h.S.under b⟩
end Go.Proofs.YtbiomnnlpafciaaDoor
