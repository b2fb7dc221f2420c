import Derived.Test.YtbiomnnlpafciaaDoorS10
set_option linter.unusedVariables false
set_option linter.unusedSimpArgs false
set_option maxHeartbeats 64000000
set_option maxRecDepth 100000
namespace Go.Proofs.YtbiomnnlpafciaaDoor
open Go.RowKit Go.IntWalk
set_option linter.unusedVariables false
set_option linter.unusedSimpArgs false
theorem grown_low {w w' : World} {v : Value} {B : Nat} (g : w.grownBy w' v.ownBlock) (hv : ∀ k, v.ownBlock = some k → B ≤ k) (hB : B ≤ w.heap.size) : Below B w w' :=
  ⟨g.os, g.tape, g.output, g.size, fun k hk => g.block k (by omega) (fun e => by have := hv k e.symm; omega)⟩
/-- a row behind no row: a new one -/
theorem nil_join {α : Type} (T : Kind α) {w : World} (t ty : TypeId) (ht : Tryd.prog.underlying t = some (.slice T.ty)) {ok : Nat → Prop} {u : Value} {r : List α} (hr : HRow T ok w u r) (hE : ∀ ok ok' w cs a, T.E ok w cs a → T.E ok' w cs a) (hM : r.length * T.bytes ≤ 140737488355328) (hm : r.length ≤ maxLen) :
    ∃ a c w', (Builtin.append_ #[t, t] ty #[.slice none 0 0, u]).run Tryd.prog w = .ok (.slice a r.length c) w' ∧ OwnL T w.heap.size w' (.slice a r.length c) r ∧ Below w.heap.size w w' := by
  obtain ⟨v', w', h1, h2, h3, h4⟩ := run_joinO T t ty ht (OwnX.nil (T := T) (ok := fun _ => False)) hr (fun k h => by cases h) (by simpa using hM) (by simpa using hm)
  rw [List.nil_append] at h2
  obtain ⟨a, c, rfl, -, -⟩ := h2.form
  refine ⟨a, c, w', h1, ownL_plain h2 (fun k hk => ?_) hE, grown_low h3 (fun k hk => by cases hk) (Nat.le_refl _)⟩
  rcases h4 with h | ⟨q, hq, hq2⟩
  · rw [h] at hk; cases hk
  · rw [hq] at hk; injection hk with hk; omega
end Go.Proofs.YtbiomnnlpafciaaDoor
namespace Go.Proofs.YtbiomnnlpafciaaDoor
open Go.RowKit Go.IntWalk
set_option linter.unusedVariables false
set_option linter.unusedSimpArgs false
structure SpV where
  aF : Option Addr
  nF : Nat
  cF : Nat
  aE : Option Addr
  nE : Nat
  cE : Nat
def scs (r : Lo.Sp) (y : SpV) : List Value := [.int .i64 r.op, .int .i64 r.k, .int .i64 r.n, .int .i64 r.tgt, .slice y.aF y.nF y.cF, .slice y.aE y.nE y.cE]
theorem HPu.wide {ok ok' : Nat → Prop} {w : World} {v : Value} {l : List Pu} (h : HPu ok w v l) (hk : ∀ i, ok i → i < w.heap.size → ok' i) : HPu ok' w v l := by
  obtain ⟨C, h3, h4⟩ := h
  exact ⟨C, h3.wide hk, h4⟩
/-- its rows hold what it has -/
structure HSp (ok : Nat → Prop) (w : World) (y : SpV) (r : Lo.Sp) : Prop where
  F : HPu ok w (.slice y.aF y.nF y.cF) r.F
  E : HPu ok w (.slice y.aE y.nE y.cE) r.E
theorem HSp.keep {ok : Nat → Prop} {w w' : World} {y : SpV} {r : Lo.Sp} (h : HSp ok w y r) (h1 : w.heap.size ≤ w'.heap.size) (h2 : ∀ i, ok i → i < w.heap.size → w'.heap[i]? = w.heap[i]?) : HSp ok w' y r := ⟨h.F.keep h1 h2, h.E.keep h1 h2⟩
theorem HSp.under {ok : Nat → Prop} {w w' : World} {y : SpV} {r : Lo.Sp} (h : HSp ok w y r) (b : Below w.heap.size w w') : HSp ok w' y r := h.keep b.size fun i _ hl => b.block i hl
theorem HSp.wide {ok ok' : Nat → Prop} {w : World} {y : SpV} {r : Lo.Sp} (h : HSp ok w y r) (hk : ∀ i, ok i → i < w.heap.size → ok' i) : HSp ok' w y r := ⟨h.F.wide hk, h.E.wide hk⟩
/-- a row of rules -/
def HSps (ok : Nat → Prop) (w : World) (v : Value) (l : List Lo.Sp) : Prop := ∃ C, Sl ok 6 w v l.length C ∧ ∀ i (h : i < l.length), ∃ y, C i = scs l[i] y ∧ HSp ok w y l[i]
theorem HSps.keep {ok : Nat → Prop} {w w' : World} {v : Value} {l : List Lo.Sp} (h : HSps ok w v l) (h1 : w.heap.size ≤ w'.heap.size) (h2 : ∀ i, ok i → i < w.heap.size → w'.heap[i]? = w.heap[i]?) : HSps ok w' v l := by
  obtain ⟨C, h3, h4⟩ := h
  refine ⟨C, h3.keep h1 h2, fun i hi => ?_⟩
  obtain ⟨y, e, hy⟩ := h4 i hi
  exact ⟨y, e, hy.keep h1 h2⟩
theorem HSps.under {ok : Nat → Prop} {w w' : World} {v : Value} {l : List Lo.Sp} (h : HSps ok w v l) (b : Below w.heap.size w w') : HSps ok w' v l := h.keep b.size fun i _ hl => b.block i hl
theorem HSps.wide {ok ok' : Nat → Prop} {w : World} {v : Value} {l : List Lo.Sp} (h : HSps ok w v l) (hk : ∀ i, ok i → i < w.heap.size → ok' i) : HSps ok' w v l := by
  obtain ⟨C, h3, h4⟩ := h
  refine ⟨C, h3.wide hk, fun i hi => ?_⟩
  obtain ⟨y, e, hy⟩ := h4 i hi
  exact ⟨y, e, hy.wide hk⟩
/-- six cells of a rule at a place -/
def SpAt (w : World) (b o : Nat) (r : Lo.Sp) (y : SpV) : Prop :=
  w.cell? ⟨b, o, none⟩ = some (.int .i64 r.op) ∧ w.cell? ⟨b, o + 1, none⟩ = some (.int .i64 r.k) ∧ w.cell? ⟨b, o + 2, none⟩ = some (.int .i64 r.n) ∧ w.cell? ⟨b, o + 3, none⟩ = some (.int .i64 r.tgt) ∧ w.cell? ⟨b, o + 4, none⟩ = some (.slice y.aF y.nF y.cF) ∧ w.cell? ⟨b, o + 5, none⟩ = some (.slice y.aE y.nE y.cE)
theorem HSps.at {ok : Nat → Prop} {w : World} {v : Value} {l : List Lo.Sp} (h : HSps ok w v l) :
    ∃ ao cap, v = .slice ao l.length cap ∧ l.length ≤ cap ∧ cap ≤ maxLen ∧ ∀ i (h : i < l.length), ∃ b o y, ao = some ⟨b, o, none⟩ ∧ b < w.heap.size ∧ SpAt w b (o + i * 6) l[i] y ∧ HSp ok w y l[i] := by
  obtain ⟨C, ⟨ao, cap, hv, h1, h2, h3⟩, hC⟩ := h
  refine ⟨ao, cap, hv, h1, h2, fun i hi => ?_⟩
  obtain ⟨b, o, ha, hob, hb, hc⟩ := h3 (by omega)
  obtain ⟨y, e, hy⟩ := hC i hi
  have hcc := (hc i hi).2
  rw [e] at hcc
  refine ⟨b, o, y, ha, hb, ⟨?_, ?_, ?_, ?_, ?_, ?_⟩, hy⟩
  · have := hcc 0 (by decide); simp only [scs, Nat.add_zero, List.getElem?_cons_zero, List.getElem?_cons_succ] at this; exact this
  · have := hcc 1 (by decide); simp only [scs, Nat.add_zero, List.getElem?_cons_zero, List.getElem?_cons_succ] at this; exact this
  · have := hcc 2 (by decide); simp only [scs, Nat.add_zero, List.getElem?_cons_zero, List.getElem?_cons_succ] at this; exact this
  · have := hcc 3 (by decide); simp only [scs, Nat.add_zero, List.getElem?_cons_zero, List.getElem?_cons_succ] at this; exact this
  · have := hcc 4 (by decide); simp only [scs, Nat.add_zero, List.getElem?_cons_zero, List.getElem?_cons_succ] at this; exact this
  · have := hcc 5 (by decide); simp only [scs, Nat.add_zero, List.getElem?_cons_zero, List.getElem?_cons_succ] at this; exact this
theorem Tryd.infoSp : (Tryd.prog.info? 62).map (fun i => (i.zero, i.size, i.bytes)) = some (some (.agg #[.int .i64 0, .int .i64 0, .int .i64 0, .int .i64 0, .slice none 0 0, .slice none 0 0]), 6, 80) := by kernel_rfl
def kSp : Kind Lo.Sp where
  ty := 62
  k := 6
  bytes := 80
  zero := .agg #[.int .i64 0, .int .i64 0, .int .i64 0, .int .i64 0, .slice none 0 0, .slice none 0 0]
  E := fun ok w cs r => ∃ y, cs = scs r y ∧ HSp ok w y r
  pos := by decide
  zs := rfl
  info := Tryd.infoSp
  len := by rintro _ _ _ _ ⟨y, rfl, _⟩; rfl
  one := by
    rintro _ _ _ _ ⟨y, rfl, _⟩ u hu
    simp [scs] at hu
    rcases hu with rfl | rfl | rfl | rfl | rfl | rfl <;> rfl
  keep := by rintro _ _ _ _ _ ⟨y, rfl, h⟩ hs hk; exact ⟨y, rfl, h.keep hs hk⟩
  wide := by rintro _ _ _ _ _ ⟨y, rfl, h⟩ hk; exact ⟨y, rfl, h.wide hk⟩
theorem sps_row {ok : Nat → Prop} {w : World} {v : Value} {l : List Lo.Sp} (h : HRow kSp ok w v l) : HSps ok w v l := h
end Go.Proofs.YtbiomnnlpafciaaDoor
