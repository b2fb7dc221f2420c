import Derived.Test.YtkgbmgpdehmiiaaDoorY09
import Derived.WalkKit
import Derived.WalkSpells
import Derived.IntWalk
import Derived.Deep.Cut
import Derived.Deep.LoopGhost
import Derived.Laws.Cover1
import Derived.Lib.Hide
set_option linter.unusedVariables false
set_option linter.unusedSimpArgs false
set_option maxHeartbeats 64000000
set_option maxRecDepth 100000
namespace Go.Proofs.YtkgbmgpdehmiiaaDoor
open Go.RowKit Go.IntWalk
set_option linter.unusedVariables false
set_option linter.unusedSimpArgs false
/-- loops in memory -/
structure HLp (ok : Nat → Prop) (w : World) (aP aG aS : Option Addr) (cP cG cS : Nat) (L : Lo.Lp) : Prop where
  P : HInts ok w (.slice aP L.P.length cP) L.P
  G : HInts ok w (.slice aG L.G.length cG) L.G
  S : HSps ok w (.slice aS L.S.length cS) L.S
  W : ∀ s ∈ L.S, Lo.SW s
theorem HLp.keep {ok : Nat → Prop} {w w' : World} {aP aG aS : Option Addr} {cP cG cS : Nat} {L : Lo.Lp} (h : HLp ok w aP aG aS cP cG cS L) (h1 : w.heap.size ≤ w'.heap.size) (h2 : ∀ i, ok i → i < w.heap.size → w'.heap[i]? = w.heap[i]?) : HLp ok w' aP aG aS cP cG cS L := ⟨h.P.keep h1 h2, h.G.keep h1 h2, h.S.keep h1 h2, h.W⟩
theorem HLp.under {ok : Nat → Prop} {w w' : World} {aP aG aS : Option Addr} {cP cG cS : Nat} {L : Lo.Lp} (h : HLp ok w aP aG aS cP cG cS L) (b : Below w.heap.size w w') : HLp ok w' aP aG aS cP cG cS L := h.keep b.size fun i _ hl => b.block i hl
end Go.Proofs.YtkgbmgpdehmiiaaDoor
namespace Go.Proofs.YtkgbmgpdehmiiaaDoor
open Go.RowKit Go.IntWalk
set_option linter.unusedVariables false
set_option linter.unusedSimpArgs false
theorem OwnL.made {w : World} {B : Nat} (hb : B ≤ w.heap.size) (cur : Array Value) (cap : Nat) (hm : cap ≤ maxLen) (hs : cur.size = cap * 1) : OwnL kLong B (w.alloc (.cells cur 2 (0, 0))) (.slice (some ⟨w.heap.size, 0, none⟩) 0 cap) [] :=
  ⟨fun _ => [], World.ownsRow_made w cur cap hb hm hs, fun j h => absurd h (Nat.not_lt_zero _)⟩
theorem make_longs (l c : Nat) (hc : l ≤ c) (hn : c ≤ 1000000) (V : World) : (Instr.makeSlice 40 (.int .i64 (l : Int)) (.int .i64 (c : Int))).run Tryd.prog V = .ok (.slice (some ⟨V.heap.size, 0, none⟩) l c) (V.alloc (.cells ((List.replicate c (0 : Int)).map (Value.int .i64)).toArray 2 (0, 0))) := by
  obtain ⟨i0, hi, hz0, hz1, hz2⟩ := info_parts Tryd.infoLg
  have h := run_make (P := Tryd.prog) V 40 2 i0 (.int .i64 0) Tryd.underlying40 hi hz0 .i64 .i64 (l : Int) (c : Int) (by omega) (by omega) (by rw [hz2]; simp; omega) (by omega)
  have e : madeCells (Value.int .i64 0).cells (((c : Int)).toNat * i0.size) = ((List.replicate c (0 : Int)).map (Value.int .i64)).toArray := by
    rw [hz1]
    apply Array.ext_getElem?
    intro j
    by_cases hj : j < c
    · simp [madeCells, Value.cells, hj, Nat.mod_one]
    · simp [madeCells, Value.cells, hj]
  rw [e] at h
  simpa using h
end Go.Proofs.YtkgbmgpdehmiiaaDoor
namespace Go.Proofs.YtkgbmgpdehmiiaaDoor
open Go.RowKit Go.IntWalk
set_option linter.unusedVariables false
set_option linter.unusedSimpArgs false
theorem applyR_any (k a b : Int) (w : World) (ha : I64 a) (hb : I64 b) : Calls Tryd.prog 58 #[.int .i64 k, .int .i64 a, .int .i64 b] w fun e w' => e = .returned (.int .i64 (apT k a b)) ∧ Below w.heap.size w w' := (refApply_any k a b w ha hb).mono (by rintro e w' ⟨rfl, rfl⟩; exact ⟨rfl, Below.refl _ _⟩)
end Go.Proofs.YtkgbmgpdehmiiaaDoor
namespace Go.Proofs.YtkgbmgpdehmiiaaDoor
open Go.RowKit Go.IntWalk
set_option linter.unusedVariables false
set_option linter.unusedSimpArgs false
theorem HRow.under {α : Type} {T : Kind α} {ok : Nat → Prop} {w w' : World} {v : Value} {l : List α} (h : HRow T ok w v l) (b : Below w.heap.size w w') : HRow T ok w' v l := h.keep b.size fun i _ hl => b.block i hl
end Go.Proofs.YtkgbmgpdehmiiaaDoor
namespace Go.Proofs.YtkgbmgpdehmiiaaDoor
open Go.RowKit Go.IntWalk
set_option linter.unusedVariables false
set_option linter.unusedSimpArgs false
theorem aside_cell {S : List Nat} {B : Nat} {w w' : World} (a : Aside S B w w') {p : Addr} (h : p.block < B) (hs : p.block ∉ S) : w'.cell? p = w.cell? p := World.cell?_of_block (a.block _ h hs)
/-- cells in block g -/
def LB (w : World) (g : Nat) (l : List Int) : Prop := w.heap[g]? = some (.cells (l.map (Value.int .i64)).toArray 2 (0, 0))
theorem LB.lt {w : World} {g : Nat} {l : List Int} (h : LB w g l) : g < w.heap.size := lt_of h
theorem LB.keep {w w' : World} {g : Nat} {l : List Int} (h : LB w g l) (hk : w'.heap[g]? = w.heap[g]?) : LB w' g l := hk.trans h
theorem LB.under {w w' : World} {g : Nat} {l : List Int} (h : LB w g l) (b : Below w.heap.size w w') : LB w' g l := h.keep (b.block _ h.lt)
theorem LB.at {w : World} {g : Nat} {l : List Int} (h : LB w g l) {i : Nat} (hi : i < l.length) : w.cell? ⟨g, i, none⟩ = some (.int .i64 l[i]) := by
  unfold LB at h
  rw [cell_of h i]
  simp [hi]
theorem LB.free {w : World} {g : Nat} {l : List Int} (h : LB w g l) (o : Nat) : w.frozen? ⟨g, o, none⟩ = false := free_of h o
theorem LB.set {w : World} {g : Nat} {l : List Int} (h : LB w g l) (i : Nat) (x : Int) : LB (w.setCell ⟨g, i, none⟩ (.int .i64 x)) g (l.set i x) := by
  unfold LB at h ⊢
  rw [set_in h i (.int .i64 x)]
  simp [List.map_set]
end Go.Proofs.YtkgbmgpdehmiiaaDoor
namespace Go.Proofs.YtkgbmgpdehmiiaaDoor
open Go.RowKit Go.IntWalk
set_option linter.unusedVariables false
set_option linter.unusedSimpArgs false
theorem HInts.at2 {ok : Nat → Prop} {w : World} {v : Value} {l : List Int} (h : HInts ok w v l) :
    ∃ ao cap, v = .slice ao l.length cap ∧ l.length ≤ cap ∧ cap ≤ maxLen ∧ ∀ i (h : i < l.length), ∃ b o, ao = some ⟨b, o, none⟩ ∧ b < w.heap.size ∧ ok b ∧ w.cell? ⟨b, o + i, none⟩ = some (.int .i64 l[i]) := by
  have h0 := h
  obtain ⟨ao, cap, e, h1, h2, hat⟩ := h.at
  obtain ⟨C, ⟨ao2, cap2, hv, -, -, h3⟩, -⟩ := h0
  rw [e] at hv
  injection hv with q1 q2 q3
  subst q1 q3
  refine ⟨ao, cap, e, h1, h2, fun i hi => ?_⟩
  obtain ⟨b, o, ha, hb, hc⟩ := hat i hi
  obtain ⟨b2, o2, ha2, hob, -, -⟩ := h3 (by omega)
  rw [ha] at ha2
  injection ha2 with ha2
  injection ha2 with z1 z2
  subst z1
  exact ⟨b, o, ha, hb, hob, hc⟩
theorem OwnL.less {α : Type} {T : Kind α} {B B' : Nat} {w : World} {v : Value} {l : List α} (h : OwnL T B w v l) (hB : B' ≤ B) : OwnL T B' w v l := by
  obtain ⟨D, ⟨o1, o2⟩, o3⟩ := h
  refine ⟨D, ⟨o1, ?_⟩, fun j hj => T.wide (o3 j hj) fun q hq _ => ⟨Nat.le_trans hB hq.1, hq.2⟩⟩
  rcases o2 with q | ⟨g, cap, cur, e1, e2, e3⟩
  · exact .inl q
  · exact .inr ⟨g, cap, cur, e1, Nat.le_trans hB e2, e3⟩
end Go.Proofs.YtkgbmgpdehmiiaaDoor
namespace Go.Proofs.YtkgbmgpdehmiiaaDoor
open Go.RowKit Go.IntWalk
set_option linter.unusedVariables false
set_option linter.unusedSimpArgs false
theorem SpAt.keep {w w' : World} {g o : Nat} {s : Lo.Sp} {y : SpV} (h : SpAt w g o s y) (hk : w'.heap[g]? = w.heap[g]?) : SpAt w' g o s y := by
  have e : ∀ p, w'.cell? ⟨g, p, none⟩ = w.cell? ⟨g, p, none⟩ := fun p => World.cell?_of_block hk
  obtain ⟨h0, h1, h2, h3, h4, h5⟩ := h
  exact ⟨(e _).trans h0, (e _).trans h1, (e _).trans h2, (e _).trans h3, (e _).trans h4, (e _).trans h5⟩
end Go.Proofs.YtkgbmgpdehmiiaaDoor
namespace Go.Proofs.YtkgbmgpdehmiiaaDoor
open Go.RowKit Go.IntWalk
set_option linter.unusedVariables false
set_option linter.unusedSimpArgs false
namespace Lo
/-- a step without the tree that is not looked at -/
def ownS (s : Sp) : Sp := ⟨s.op, s.k, s.n, s.tgt, if folds s then s.F else [], s.E⟩
def d0 : Sp := ⟨0, 0, 0, 0, [], []⟩
end Lo
end Go.Proofs.YtkgbmgpdehmiiaaDoor
namespace Go.Proofs.YtkgbmgpdehmiiaaDoor
open Go.RowKit Go.IntWalk
set_option linter.unusedVariables false
set_option linter.unusedSimpArgs false
namespace Lo
end Lo
structure OwnR (N0 cw hi : Nat) (w : World) (a1 a2 a3 : Option Addr) (c1 c2 c3 : Nat) (P G : List Int) (S : List Lo.Sp) : Prop where
  P : HInts (fun i => i < N0 ∨ (cw ≤ i ∧ i < hi)) w (.slice a1 P.length c1) P
  G : HInts (fun i => i < N0 ∨ (cw ≤ i ∧ i < hi)) w (.slice a2 G.length c2) G
  S : HSps (fun i => i < N0 ∨ (cw ≤ i ∧ i < hi)) w (.slice a3 S.length c3) (S.map Lo.ownS)
theorem OwnR.of {N0 cw : Nat} {w : World} {a1 a2 a3 : Option Addr} {c1 c2 c3 : Nat} {P G : List Int} {S : List Lo.Sp} (o1 : HInts (fun i => i < N0 ∨ cw ≤ i) w (.slice a1 P.length c1) P) (o2 : HInts (fun i => i < N0 ∨ cw ≤ i) w (.slice a2 G.length c2) G) (o3 : HSps (fun i => i < N0 ∨ cw ≤ i) w (.slice a3 S.length c3) (S.map Lo.ownS)) : OwnR N0 cw w.heap.size w a1 a2 a3 c1 c2 c3 P G S :=
  ⟨o1.wide fun i h hl => h.elim .inl fun h => .inr ⟨h, hl⟩, o2.wide fun i h hl => h.elim .inl fun h => .inr ⟨h, hl⟩, o3.wide fun i h hl => h.elim .inl fun h => .inr ⟨h, hl⟩⟩
theorem OwnR.below {N0 cw hi : Nat} {w w' : World} {a1 a2 a3 : Option Addr} {c1 c2 c3 : Nat} {P G : List Int} {S : List Lo.Sp} (h : OwnR N0 cw hi w a1 a2 a3 c1 c2 c3 P G S) (b : Below w.heap.size w w') : OwnR N0 cw hi w' a1 a2 a3 c1 c2 c3 P G S := ⟨h.P.under b, h.G.under b, h.S.under b⟩
end Go.Proofs.YtkgbmgpdehmiiaaDoor
namespace Go.Proofs.YtkgbmgpdehmiiaaDoor
open Go.RowKit Go.IntWalk
set_option linter.unusedVariables false
set_option linter.unusedSimpArgs false
theorem grown_low {w w' : World} {v : Value} {B : Nat} (g : w.grownBy w' v.ownBlock) (hv : ∀ k, v.ownBlock = some k → B ≤ k) (hB : B ≤ w.heap.size) : Below B w w' :=
  ⟨g.os, g.tape, g.output, g.size, fun k hk => g.block k (by omega) (fun e => by have := hv k e.symm; omega)⟩
/-- a row behind no row: a new one -/
theorem nil_join {α : Type} (T : Kind α) {w : World} (t ty : TypeId) (ht : Tryd.prog.underlying t = some (.slice T.ty)) {ok : Nat → Prop} {u : Value} {r : List α} (hr : HRow T ok w u r) (hE : ∀ ok ok' w cs a, T.E ok w cs a → T.E ok' w cs a) (hM : r.length * T.bytes ≤ 140737488355328) (hm : r.length ≤ maxLen) :
    ∃ a c w', (Builtin.append_ #[t, t] ty #[.slice none 0 0, u]).run Tryd.prog w = .ok (.slice a r.length c) w' ∧ OwnL T w.heap.size w' (.slice a r.length c) r ∧ Below w.heap.size w w' := by
  obtain ⟨v', w', h1, h2, h3, h4⟩ := run_joinO T t ty ht (OwnX.nil (T := T) (ok := fun _ => False)) hr (fun k h => by cases h) (by simpa using hM) (by simpa using hm)
  rw [List.nil_append] at h2
  obtain ⟨a, c, rfl, -, -⟩ := h2.form
  refine ⟨a, c, w', h1, ownL_plain h2 (fun k hk => ?_) hE, grown_low h3 (fun k hk => by cases hk) (Nat.le_refl _)⟩
  rcases h4 with h | ⟨q, hq, hq2⟩
  · rw [h] at hk; cases hk
  · rw [hq] at hk; injection hk with hk; omega
end Go.Proofs.YtkgbmgpdehmiiaaDoor
