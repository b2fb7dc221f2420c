import Derived.Test.YtbiomnnlpafciaaDoorT10
import Derived.WalkKit
import Derived.WalkSpells
import Derived.IntWalk
import Derived.Deep.Cut
import Derived.Deep.LoopGhost
import Derived.Laws.Cover1
import Derived.Lib.Hide
set_option linter.unusedVariables false
set_option linter.unusedSimpArgs false
set_option maxHeartbeats 64000000
set_option maxRecDepth 100000
namespace Go.Proofs.YtbiomnnlpafciaaDoor
open Go.RowKit Go.IntWalk
set_option linter.unusedVariables false
set_option linter.unusedSimpArgs false
theorem grown_low {w w' : World} {v : Value} {B : Nat} (g : w.grownBy w' v.ownBlock) (hv : ∀ k, v.ownBlock = some k → B ≤ k) (hB : B ≤ w.heap.size) : Below B w w' :=
  ⟨g.os, g.tape, g.output, g.size, fun k hk => g.block k (by omega) (fun e => by have := hv k e.symm; omega)⟩
/-- a row behind no row: a new one -/
theorem nil_join {α : Type} (T : Kind α) {w : World} (t ty : TypeId) (ht : Tryd.prog.underlying t = some (.slice T.ty)) {ok : Nat → Prop} {u : Value} {r : List α} (hr : HRow T ok w u r) (hE : ∀ ok ok' w cs a, T.E ok w cs a → T.E ok' w cs a) (hM : r.length * T.bytes ≤ 140737488355328) (hm : r.length ≤ maxLen) :
    ∃ a c w', (Builtin.append_ #[t, t] ty #[.slice none 0 0, u]).run Tryd.prog w = .ok (.slice a r.length c) w' ∧ OwnL T w.heap.size w' (.slice a r.length c) r ∧ Below w.heap.size w w' := by
  obtain ⟨v', w', h1, h2, h3, h4⟩ := run_joinO T t ty ht (OwnX.nil (T := T) (ok := fun _ => False)) hr (fun k h => by cases h) (by simpa using hM) (by simpa using hm)
  rw [List.nil_append] at h2
  obtain ⟨a, c, rfl, -, -⟩ := h2.form
  refine ⟨a, c, w', h1, ownL_plain h2 (fun k hk => ?_) hE, grown_low h3 (fun k hk => by cases hk) (Nat.le_refl _)⟩
  rcases h4 with h | ⟨q, hq, hq2⟩
  · rw [h] at hk; cases hk
  · rw [hq] at hk; injection hk with hk; omega
end Go.Proofs.YtbiomnnlpafciaaDoor
namespace Go.Proofs.YtbiomnnlpafciaaDoor
open Go.RowKit Go.IntWalk
set_option linter.unusedVariables false
set_option linter.unusedSimpArgs false
structure SpV where
  aF : Option Addr
  nF : Nat
  cF : Nat
  aE : Option Addr
  nE : Nat
  cE : Nat
def scs (r : Lo.Sp) (y : SpV) : List Value := [.int .i64 r.op, .int .i64 r.k, .int .i64 r.n, .int .i64 r.tgt, .slice y.aF y.nF y.cF, .slice y.aE y.nE y.cE]
theorem HPu.wide {ok ok' : Nat → Prop} {w : World} {v : Value} {l : List Pu} (h : HPu ok w v l) (hk : ∀ i, ok i → i < w.heap.size → ok' i) : HPu ok' w v l := by
  obtain ⟨C, h3, h4⟩ := h
  exact ⟨C, h3.wide hk, h4⟩
/-- its rows hold what it has -/
structure HSp (ok : Nat → Prop) (w : World) (y : SpV) (r : Lo.Sp) : Prop where
  F : HPu ok w (.slice y.aF y.nF y.cF) r.F
  E : HPu ok w (.slice y.aE y.nE y.cE) r.E
theorem HSp.keep {ok : Nat → Prop} {w w' : World} {y : SpV} {r : Lo.Sp} (h : HSp ok w y r) (h1 : w.heap.size ≤ w'.heap.size) (h2 : ∀ i, ok i → i < w.heap.size → w'.heap[i]? = w.heap[i]?) : HSp ok w' y r := ⟨h.F.keep h1 h2, h.E.keep h1 h2⟩
theorem HSp.under {ok : Nat → Prop} {w w' : World} {y : SpV} {r : Lo.Sp} (h : HSp ok w y r) (b : Below w.heap.size w w') : HSp ok w' y r := h.keep b.size fun i _ hl => b.block i hl
theorem HSp.wide {ok ok' : Nat → Prop} {w : World} {y : SpV} {r : Lo.Sp} (h : HSp ok w y r) (hk : ∀ i, ok i → i < w.heap.size → ok' i) : HSp ok' w y r := ⟨h.F.wide hk, h.E.wide hk⟩
/-- a row of rules -/
def HSps (ok : Nat → Prop) (w : World) (v : Value) (l : List Lo.Sp) : Prop := ∃ C, Sl ok 6 w v l.length C ∧ ∀ i (h : i < l.length), ∃ y, C i = scs l[i] y ∧ HSp ok w y l[i]
theorem HSps.keep {ok : Nat → Prop} {w w' : World} {v : Value} {l : List Lo.Sp} (h : HSps ok w v l) (h1 : w.heap.size ≤ w'.heap.size) (h2 : ∀ i, ok i → i < w.heap.size → w'.heap[i]? = w.heap[i]?) : HSps ok w' v l := by
  obtain ⟨C, h3, h4⟩ := h
  refine ⟨C, h3.keep h1 h2, fun i hi => ?_⟩
  obtain ⟨y, e, hy⟩ := h4 i hi
  exact ⟨y, e, hy.keep h1 h2⟩
theorem HSps.under {ok : Nat → Prop} {w w' : World} {v : Value} {l : List Lo.Sp} (h : HSps ok w v l) (b : Below w.heap.size w w') : HSps ok w' v l := h.keep b.size fun i _ hl => b.block i hl
theorem HSps.wide {ok ok' : Nat → Prop} {w : World} {v : Value} {l : List Lo.Sp} (h : HSps ok w v l) (hk : ∀ i, ok i → i < w.heap.size → ok' i) : HSps ok' w v l := by
  obtain ⟨C, h3, h4⟩ := h
  refine ⟨C, h3.wide hk, fun i hi => ?_⟩
  obtain ⟨y, e, hy⟩ := h4 i hi
  exact ⟨y, e, hy.wide hk⟩
/-- six cells of a rule at a place -/
def SpAt (w : World) (b o : Nat) (r : Lo.Sp) (y : SpV) : Prop :=
  w.cell? ⟨b, o, none⟩ = some (.int .i64 r.op) ∧ w.cell? ⟨b, o + 1, none⟩ = some (.int .i64 r.k) ∧ w.cell? ⟨b, o + 2, none⟩ = some (.int .i64 r.n) ∧ w.cell? ⟨b, o + 3, none⟩ = some (.int .i64 r.tgt) ∧ w.cell? ⟨b, o + 4, none⟩ = some (.slice y.aF y.nF y.cF) ∧ w.cell? ⟨b, o + 5, none⟩ = some (.slice y.aE y.nE y.cE)
theorem HSps.at {ok : Nat → Prop} {w : World} {v : Value} {l : List Lo.Sp} (h : HSps ok w v l) :
    ∃ ao cap, v = .slice ao l.length cap ∧ l.length ≤ cap ∧ cap ≤ maxLen ∧ ∀ i (h : i < l.length), ∃ b o y, ao = some ⟨b, o, none⟩ ∧ b < w.heap.size ∧ SpAt w b (o + i * 6) l[i] y ∧ HSp ok w y l[i] := by
  obtain ⟨C, ⟨ao, cap, hv, h1, h2, h3⟩, hC⟩ := h
  refine ⟨ao, cap, hv, h1, h2, fun i hi => ?_⟩
  obtain ⟨b, o, ha, hob, hb, hc⟩ := h3 (by omega)
  obtain ⟨y, e, hy⟩ := hC i hi
  have hcc := (hc i hi).2
  rw [e] at hcc
  refine ⟨b, o, y, ha, hb, ⟨?_, ?_, ?_, ?_, ?_, ?_⟩, hy⟩
  · have := hcc 0 (by decide); simp only [scs, Nat.add_zero, List.getElem?_cons_zero, List.getElem?_cons_succ] at this; exact this
  · have := hcc 1 (by decide); simp only [scs, Nat.add_zero, List.getElem?_cons_zero, List.getElem?_cons_succ] at this; exact this
  · have := hcc 2 (by decide); simp only [scs, Nat.add_zero, List.getElem?_cons_zero, List.getElem?_cons_succ] at this; exact this
  · have := hcc 3 (by decide); simp only [scs, Nat.add_zero, List.getElem?_cons_zero, List.getElem?_cons_succ] at this; exact this
  · have := hcc 4 (by decide); simp only [scs, Nat.add_zero, List.getElem?_cons_zero, List.getElem?_cons_succ] at this; exact this
  · have := hcc 5 (by decide); simp only [scs, Nat.add_zero, List.getElem?_cons_zero, List.getElem?_cons_succ] at this; exact this
theorem Tryd.infoSp : (Tryd.prog.info? 62).map (fun i => (i.zero, i.size, i.bytes)) = some (some (.agg #[.int .i64 0, .int .i64 0, .int .i64 0, .int .i64 0, .slice none 0 0, .slice none 0 0]), 6, 80) := by kernel_rfl
def kSp : Kind Lo.Sp where
  ty := 62
  k := 6
  bytes := 80
  zero := .agg #[.int .i64 0, .int .i64 0, .int .i64 0, .int .i64 0, .slice none 0 0, .slice none 0 0]
  E := fun ok w cs r => ∃ y, cs = scs r y ∧ HSp ok w y r
  pos := by decide
  zs := rfl
  info := Tryd.infoSp
  len := by rintro _ _ _ _ ⟨y, rfl, _⟩; rfl
  one := by
    rintro _ _ _ _ ⟨y, rfl, _⟩ u hu
    simp [scs] at hu
    rcases hu with rfl | rfl | rfl | rfl | rfl | rfl <;> rfl
  keep := by rintro _ _ _ _ _ ⟨y, rfl, h⟩ hs hk; exact ⟨y, rfl, h.keep hs hk⟩
  wide := by rintro _ _ _ _ _ ⟨y, rfl, h⟩ hk; exact ⟨y, rfl, h.wide hk⟩
theorem sps_row {ok : Nat → Prop} {w : World} {v : Value} {l : List Lo.Sp} (h : HRow kSp ok w v l) : HSps ok w v l := h
end Go.Proofs.YtbiomnnlpafciaaDoor
namespace Go.Proofs.YtbiomnnlpafciaaDoor
open Go.RowKit Go.IntWalk
set_option linter.unusedVariables false
set_option linter.unusedSimpArgs false
theorem has36_any (c f n : Int) (w : World) (h : I64 (c - n)) : Calls Tryd.prog 64 #[.int .i64 c, .int .i64 f, .int .i64 n] w fun e w' => e = .returned (.bool (Lo.hasN c f n)) ∧ w' = w := by
  have hw := w64_in h
  unfold Lo.hasN
  by_cases h1 : 0 ≤ f
  · go_enter Tryd.func64, Tryd.ntmps64
    go_wp2
    go_ret
    exact ⟨by simp [h1], rfl⟩
  · go_enter Tryd.func64, Tryd.ntmps64
    go_wp2
    go_ret
    exact ⟨by simp [show ¬ 0 ≤ f by omega], rfl⟩
theorem lacks22_any (c x : Int) (w : World) (h : I64 (c - 1)) : Calls Tryd.prog 39 #[.int .i64 c, .int .i64 x] w fun e w' => e = .returned (.bool (!Lo.hasN c x 1)) ∧ w' = w := by
  have hc := has36_any c x 1 w h
  generalize Lo.hasN c x 1 = q at hc ⊢
  go_enter Tryd.func39, Tryd.ntmps39
  go_wp2_with (go_at_call 64; refine hc.mono ?_; rintro e w' ⟨rfl, rfl⟩)
  go_ret
  exact ⟨by simp, rfl⟩
theorem turns37_any (op k n t : Int) (F E : List Pu) (aF aE : Option Addr) (nF cF nE cE : Nat) (w : World) : Calls Tryd.prog 65 #[.agg #[.int .i64 op, .int .i64 k, .int .i64 n, .int .i64 t, .slice aF nF cF, .slice aE nE cE]] w fun e w' => e = .returned (.int .i64 (Lo.turns ⟨op, k, n, t, F, E⟩)) ∧ Below w.heap.size w w' := by
  have b1 : Below w.heap.size w (w.alloc (.cells #[.int .i64 op, .int .i64 k, .int .i64 n, .int .i64 t, .slice aF nF cF, .slice aE nE cE] 62 (0, 0))) := (Below.refl _ _).alloc (Nat.le_refl _) _
  unfold Lo.turns
  dsimp only
  by_cases h1 : op = 1
  · subst h1
    go_enter Tryd.func65, Tryd.ntmps65
    go_wp2
    go_ret
    exact ⟨rfl, b1⟩
  · have h2 : (op == 1) = false := by simpa using h1
    rw [if_neg h1]
    go_enter Tryd.func65, Tryd.ntmps65
    go_wp2
    go_ret
    exact ⟨rfl, b1⟩
theorem made38_any (op k n t : Int) (F E : List Pu) (aF aE : Option Addr) (nF cF nE cE : Nat) (w : World) : Calls Tryd.prog 66 #[.agg #[.int .i64 op, .int .i64 k, .int .i64 n, .int .i64 t, .slice aF nF cF, .slice aE nE cE]] w fun e w' => e = .returned (.int .i64 (Lo.made ⟨op, k, n, t, F, E⟩)) ∧ Below w.heap.size w w' := by
  have b1 : Below w.heap.size w (w.alloc (.cells #[.int .i64 op, .int .i64 k, .int .i64 n, .int .i64 t, .slice aF nF cF, .slice aE nE cE] 62 (0, 0))) := (Below.refl _ _).alloc (Nat.le_refl _) _
  have ht := fun W => turns37_any op k n t F E aF aE nF cF nE cE W
  unfold Lo.made
  dsimp only
  generalize Lo.turns ⟨op, k, n, t, F, E⟩ = r at ht ⊢
  by_cases h1 : op = 3
  · subst h1
    go_enter Tryd.func66, Tryd.ntmps66
    go_wp2
    go_ret
    exact ⟨rfl, b1⟩
  · have h2 : (op == 3) = false := by simpa using h1
    rw [if_neg h1]
    go_enter Tryd.func66, Tryd.ntmps66
    go_wp2_with (go_at_call 65; refine (ht _).mono ?_; rintro e w' ⟨rfl, b2⟩)
    go_ret
    exact ⟨rfl, b1.trans (b2.mono b1.size)⟩
theorem folds40_any (op k n t : Int) (F E : List Pu) (aF aE : Option Addr) (nF cF nE cE : Nat) (w : World) : Calls Tryd.prog 68 #[.agg #[.int .i64 op, .int .i64 k, .int .i64 n, .int .i64 t, .slice aF nF cF, .slice aE nE cE]] w fun e w' => e = .returned (.bool (Lo.folds ⟨op, k, n, t, F, E⟩)) ∧ Below w.heap.size w w' := by
  have b1 : Below w.heap.size w (w.alloc (.cells #[.int .i64 op, .int .i64 k, .int .i64 n, .int .i64 t, .slice aF nF cF, .slice aE nE cE] 62 (0, 0))) := (Below.refl _ _).alloc (Nat.le_refl _) _
  unfold Lo.folds
  dsimp only
  by_cases h1 : (op == 3) = true
  · go_enter Tryd.func68, Tryd.ntmps68
    go_wp2
    go_ret
    exact ⟨by simp [h1], b1⟩
  · have h1 : (op == 3) = false := by simpa using h1
    go_enter Tryd.func68, Tryd.ntmps68
    go_wp2
    go_ret
    exact ⟨by simp [h1], b1⟩
theorem opnd41_any (k : Int) (w : World) (hG : GlobK w) : Calls Tryd.prog 69 #[.int .i64 k] w fun e w' => e = .returned (.int .i64 (Kd.opT k).2.2) ∧ Below w.heap.size w w' := by
  have hc := op_any k w hG
  generalize Kd.opT k = q at hc ⊢
  obtain ⟨q1, q2, q3⟩ := q
  go_enter Tryd.func69, Tryd.ntmps69
  go_wp2_with (go_at_call 82; refine hc.mono ?_; rintro e w' ⟨rfl, b1⟩)
  go_ret
  exact ⟨rfl, b1⟩
theorem taken50_any (op k v n : Int) (w : World) : Calls Tryd.prog 80 #[.agg #[.int .i64 op, .int .i64 k, .int .i64 v, .int .i64 n]] w fun e w' => e = .returned (.int .i64 (Lo.tk op)) ∧ Below w.heap.size w w' := by
  have b1 : Below w.heap.size w (w.alloc (.cells #[.int .i64 op, .int .i64 k, .int .i64 v, .int .i64 n] 59 (0, 0))) := (Below.refl _ _).alloc (Nat.le_refl _) _
  unfold Lo.tk
  by_cases h5 : op = 5
  · subst h5
    go_enter Tryd.func80, Tryd.ntmps80
    go_wp2
    go_ret
    exact ⟨rfl, b1⟩
  rw [if_neg h5]
  have g5 : (op == 5) = false := by simpa using h5
  by_cases h6 : op = 6
  · subst h6
    go_enter Tryd.func80, Tryd.ntmps80
    go_wp2
    go_ret
    exact ⟨rfl, b1⟩
  have g6 : (op == 6) = false := by simpa using h6
  by_cases h8 : op = 8
  · subst h8
    go_enter Tryd.func80, Tryd.ntmps80
    go_wp2
    go_ret
    exact ⟨rfl, b1⟩
  have g8 : (op == 8) = false := by simpa using h8
  rw [if_neg (by omega)]
  by_cases h7 : op = 7
  · subst h7
    go_enter Tryd.func80, Tryd.ntmps80
    go_wp2
    go_ret
    exact ⟨rfl, b1⟩
  have g7 : (op == 7) = false := by simpa using h7
  rw [if_neg h7]
  clear h5 h6 h7 h8
  go_enter Tryd.func80, Tryd.ntmps80
  go_wp2
  go_ret
  exact ⟨rfl, b1⟩
end Go.Proofs.YtbiomnnlpafciaaDoor
namespace Go.Proofs.YtbiomnnlpafciaaDoor
open Go.RowKit Go.IntWalk
set_option linter.unusedVariables false
set_option linter.unusedSimpArgs false
set_option maxHeartbeats 4000000 in
theorem push51_any (c n0 op k v n : Int) (w : World) (hG : GlobK w) (hc : 1 ≤ c ∧ c ≤ 6000) (hn : 1 ≤ n0 ∧ n0 ≤ 300) (hni : I64 n) : Calls Tryd.prog 81 #[.int .i64 c, .agg #[.int .i64 op, .int .i64 k, .int .i64 v, .int .i64 n], .int .i64 n0] w fun e w' => e = .returned (.bool (Lo.pushOK c n0 ⟨op, k, v, n⟩)) ∧ Below w.heap.size w w' := by
  have b1 : Below w.heap.size w (w.alloc (.cells #[.int .i64 op, .int .i64 k, .int .i64 v, .int .i64 n] 59 (0, 0))) := (Below.refl _ _).alloc (Nat.le_refl _) _
  have hO := opnd41_any k _ (hG.under b1)
  have hA1 := fun W => has36_any c v 1 W (by unfold I64; omega)
  have hA2 := fun W => has36_any c v n0 W (by unfold I64; omega)
  have hA3 := fun (h : 1 ≤ n) W => has36_any c v n W (by unfold I64 at *; omega)
  unfold Lo.pushOK
  dsimp only
  generalize (Kd.opT k).2.2 = kq at hO ⊢
  have HO := hide hO
  have HA1 := hide hA1
  have HA2 := hide hA2
  have HA3 := hide hA3
  clear hO hA1 hA2 hA3 hG hc hn hni
  by_cases h1 : op = 1
  · subst h1
    rw [if_pos (by decide)]
    go_enter Tryd.func81, Tryd.ntmps81
    go_wp2
    go_ret
    exact ⟨rfl, b1⟩
  have g1 : (op == 1) = false := by simpa using h1
  by_cases h7 : op = 7
  · subst h7
    rw [if_pos (by decide)]
    go_enter Tryd.func81, Tryd.ntmps81
    go_wp2
    go_ret
    exact ⟨rfl, b1⟩
  have g7 : (op == 7) = false := by simpa using h7
  rw [if_neg (by omega)]
  by_cases h2 : op = 2
  · subst h2
    rw [if_pos rfl]
    generalize Lo.hasN c v 1 = q at HA1 ⊢
    go_enter Tryd.func81, Tryd.ntmps81
    go_wp2_with (first | (go_at_call 64; refine (HA1.out _).mono ?_; rintro e w' ⟨rfl, rfl⟩) | (go_at_call 69; refine HO.out.mono ?_; rintro e w' ⟨rfl, b2⟩))
    go_ret
    exact ⟨rfl, b1⟩
  have g2 : (op == 2) = false := by simpa using h2
  rw [if_neg h2]
  by_cases h3 : op = 3
  · subst h3
    rw [if_pos rfl]
    generalize Lo.hasN c v n0 = q at HA2 ⊢
    go_enter Tryd.func81, Tryd.ntmps81
    go_wp2_with (first | (go_at_call 64; refine (HA2.out _).mono ?_; rintro e w' ⟨rfl, rfl⟩) | (go_at_call 69; refine HO.out.mono ?_; rintro e w' ⟨rfl, b2⟩))
    go_ret
    exact ⟨rfl, b1⟩
  have g3 : (op == 3) = false := by simpa using h3
  rw [if_neg h3]
  by_cases h4 : op = 4
  · subst h4
    rw [if_pos rfl]
    by_cases z1 : -1000000000000000000 ≤ n
    · go_enter Tryd.func81, Tryd.ntmps81
      go_wp2
      go_ret
      exact ⟨by simp [z1], b1⟩
    · go_enter Tryd.func81, Tryd.ntmps81
      go_wp2
      go_ret
      exact ⟨by simp [show ¬ -1000000000000000000 ≤ n by omega], b1⟩
  have g4 : (op == 4) = false := by simpa using h4
  rw [if_neg h4]
  by_cases h5 : op = 5
  · subst h5
    rw [if_pos rfl]
    go_enter Tryd.func81, Tryd.ntmps81
    go_wp2_with (first | (go_at_call 64; refine (HA1.out _).mono ?_; rintro e w' ⟨rfl, rfl⟩) | (go_at_call 69; refine HO.out.mono ?_; rintro e w' ⟨rfl, b2⟩))
    go_ret
    exact ⟨rfl, b1.trans (b2.mono b1.size)⟩
  have g5 : (op == 5) = false := by simpa using h5
  rw [if_neg h5]
  by_cases h6 : op = 6
  · subst h6
    rw [if_pos rfl]
    go_enter Tryd.func81, Tryd.ntmps81
    go_wp2_with (first | (go_at_call 64; refine (HA1.out _).mono ?_; rintro e w' ⟨rfl, rfl⟩) | (go_at_call 69; refine HO.out.mono ?_; rintro e w' ⟨rfl, b2⟩))
    go_ret
    exact ⟨rfl, b1.trans (b2.mono b1.size)⟩
  have g6 : (op == 6) = false := by simpa using h6
  rw [if_neg h6]
  by_cases h8 : op = 8
  · subst h8
    rw [if_pos rfl]
    by_cases z1 : 1 ≤ n
    · have HA4 := hide (HA3.out z1)
      generalize Lo.hasN c v n = q at HA4 ⊢
      clear HA3
      go_enter Tryd.func81, Tryd.ntmps81
      go_wp2_with (first | (go_at_call 64; refine (HA4.out _).mono ?_; rintro e w' ⟨rfl, rfl⟩) | (go_at_call 69; refine HO.out.mono ?_; rintro e w' ⟨rfl, b2⟩))
      go_ret
      exact ⟨by simp [z1], b1⟩
    · go_enter Tryd.func81, Tryd.ntmps81
      go_wp2
      go_ret
      exact ⟨by simp [show ¬ 1 ≤ n by omega], b1⟩
  have g8 : (op == 8) = false := by simpa using h8
  rw [if_neg h8]
  clear h1 h2 h3 h4 h5 h6 h7 h8
  go_enter Tryd.func81, Tryd.ntmps81
  go_wp2
  go_ret
  exact ⟨rfl, b1⟩
end Go.Proofs.YtbiomnnlpafciaaDoor
namespace Go.Proofs.YtbiomnnlpafciaaDoor
open Go.RowKit Go.IntWalk
set_option linter.unusedVariables false
set_option linter.unusedSimpArgs false
theorem wrap64_h (h t : Int) (h0 : 0 ≤ h) (h1 : h ≤ 24) (ht : 0 ≤ t ∧ t ≤ 3) : wrap64 (h - t) = h - t := w64_in (by unfold I64; omega)
theorem wrap64_h1 (h t : Int) (h0 : 0 ≤ h) (h1 : h ≤ 24) (ht : 0 ≤ t ∧ t ≤ 3) (hz : ¬ h - t < 0) : wrap64 (h - t + 1) = h - t + 1 := w64_in (by unfold I64; omega)
set_option maxHeartbeats 8000000 in
theorem hasTree39_any {ok : Nat → Prop} {w : World} {u : Value} {E : List Pu} (c n0 : Int) (hG : GlobK w) (hE : HPu ok w u E) (hW : Lo.PW E) (hc : 1 ≤ c ∧ c ≤ 6000) (hn : 1 ≤ n0 ∧ n0 ≤ 300) : Calls Tryd.prog 67 #[.int .i64 c, u, .int .i64 n0] w fun e w' => e = .returned (.bool (Lo.treeOK c n0 E)) ∧ Below w.heap.size w w' := by
  obtain ⟨aE, cE, rfl, hE1, hE2, -⟩ := hE.at
  unfold maxLen at hE2
  unfold Lo.treeOK
  obtain ⟨ne, hne⟩ : ∃ ne, ne = E.length := ⟨_, rfl⟩
  rw [← hne] at hE1 ⊢
  have HNE := hide hne
  have HE := hide hE
  have HG := hide hG
  have HW := hide hW
  clear hne hE hG hW
  by_cases hl : ne ≤ 24
  case neg =>
    have e1 : decide (ne ≤ 24) = false := by simp [hl]
    rw [e1, Bool.false_and]
    go_enter Tryd.func67, Tryd.ntmps67
    go_wp2
    go_ret
    exact ⟨rfl, Below.refl _ _⟩
  have e1 : decide (ne ≤ 24) = true := by simp [hl]
  rw [e1, Bool.true_and]
  obtain ⟨R, hR⟩ : ∃ R, R = Lo.hgt c n0 0 E := ⟨_, rfl⟩
  rw [← hR]
  have HR := hide (show R = Lo.hgt c n0 0 (E.drop 0) by rw [List.drop_zero]; exact hR)
  have HC := hide hc
  have HN := hide hn
  clear hR e1 hc hn
  go_enter Tryd.func67, Tryd.ntmps67
  go_wp2_with fail
  go_loopg [7, 15] ne (fun k v7 v15 wr => ∃ (i : Nat) (h : Int), i ≤ ne ∧ k = ne - i ∧ v7 = .int .i64 h ∧ 0 ≤ h ∧ h ≤ i ∧ v15 = .int .i64 (i : Nat) ∧ Hid (R = Lo.hgt c n0 h (E.drop i)) ∧ Below w.heap.size w wr)
  case atStart => exact ⟨0, 0, Nat.zero_le _, rfl, rfl, by omega, by omega, rfl, HR, Below.refl _ _⟩
  case round =>
    clear HR
    obtain ⟨i, h, hi, rfl, rfl, h0, hh, rfl, H, hbr⟩ := hrel
    by_cases hlt : i < ne
    case neg =>
      have hin : i = ne := by omega
      subst hin
      have HZ := hide (show R = (h == 1) by rw [H.out, List.drop_of_length_le (by have := HNE.out; omega)]; rfl)
      clear H
      go_wp2
      go_ret
      exact ⟨by rw [HZ.out]; rfl, hbr⟩
    case pos =>
      have hil : i < E.length := by have := HNE.out; omega
      have hR1 := H.out
      rw [List.drop_eq_getElem_cons hil, Lo.hgt] at hR1
      have hpw := HW.out _ (List.getElem_mem hil)
      obtain ⟨ao', cap', eqs, -, -, hat2⟩ := (HE.out.under hbr).at
      injection eqs with z1 z2 z3
      subst z1
      obtain ⟨bb, oo, rfl, hb, e0, e1, e2, e3⟩ := hat2 i hil
      generalize E[i] = p at e0 e1 e2 e3 hR1 hpw
      obtain ⟨op, k, v, n⟩ := p
      dsimp only at e0 e1 e2 e3 hR1 hpw
      have b2 : Below wr.heap.size wr (wr.alloc (.cells #[.int .i64 op, .int .i64 k, .int .i64 v, .int .i64 n] 59 (0, 0))) := (Below.refl _ _).alloc (Nat.le_refl _) _
      have kP := heap_new wr (.cells #[.int .i64 op, .int .i64 k, .int .i64 v, .int .i64 n] 59 (0, 0))
      have B2 := hbr.trans (b2.mono hbr.size)
      have HR1 := hide hR1
      have hp := fun W (hG : GlobK W) => push51_any c n0 op k v n W hG HC.out HN.out hpw
      have ht := fun W => taken50_any op k v n W
      have htk := Lo.tk_nonneg op
      generalize Lo.pushOK c n0 ⟨op, k, v, n⟩ = q at hp HR1
      generalize Lo.tk op = tko at ht HR1 htk
      have HP := hide hp
      have HT := hide ht
      clear hat2 z2 z3 hR1 H hil hp ht hpw
      go_upto_region 7 with fail
      generalize wr.alloc (.cells #[.int .i64 op, .int .i64 k, .int .i64 v, .int .i64 n] 59 (0, 0)) = w3 at b2 kP B2 ⊢
      have GK := hide (HG.out.under B2)
      have a0 := cell_of kP 0
      have a1 := cell_of kP 1
      have a2 := cell_of kP 2
      have a3 := cell_of kP 3
      simp at a0 a1 a2 a3
      clear e0 e1 e2 e3
      have HP2 := hide (wrap64_h h tko h0 (by omega) htk)
      go_upto_region 8 with (go_at_call 80; refine (HT.out _).mono ?_; rintro e w5 ⟨rfl, b5⟩)
      have c0 := (b5.cell (p := ⟨wr.heap.size, 0, none⟩) (lt_of kP)).trans a0
      have c1 := (b5.cell (p := ⟨wr.heap.size, 1, none⟩) (lt_of kP)).trans a1
      have c2 := (b5.cell (p := ⟨wr.heap.size, 2, none⟩) (lt_of kP)).trans a2
      have c3 := (b5.cell (p := ⟨wr.heap.size, 3, none⟩) (lt_of kP)).trans a3
      have B5 := B2.trans (b5.mono B2.size)
      have GK5 := hide (GK.out.under b5)
      clear kP a0 a1 a2 a3 b2 B2 GK HT b5 hbr
      try rw [HP2.out]
      clear HP2
      by_cases hz : h - tko < 0
      case pos =>
        have HZ := hide (show R = false by rw [HR1.out, if_pos (.inl hz)])
        clear HR1
        go_wp2
        go_ret
        exact ⟨by rw [HZ.out]; rfl, B5⟩
      case neg =>
        cases q
        case false =>
          have HZ := hide (show R = false by rw [HR1.out, if_pos (.inr rfl)])
          clear HR1
          go_wp2_with (go_at_call 81; refine (HP.out _ GK5.out).mono ?_; rintro e w6 ⟨rfl, b6⟩)
          go_ret
          exact ⟨by rw [HZ.out]; rfl, B5.trans (b6.mono B5.size)⟩
        case true =>
          have HZ := hide (show R = Lo.hgt c n0 (h - tko + 1) (E.drop (i + 1)) by rw [HR1.out, if_neg (by rintro (x | x); exact hz x; cases x)])
          clear HR1
          have HP3 := hide (wrap64_h1 h tko h0 (by omega) htk hz)
          go_wp2_with (go_at_call 81; refine (HP.out _ GK5.out).mono ?_; rintro e w6 ⟨rfl, b6⟩)
          try rw [HP3.out]
          go_roundg (ne - (i + 1))
          case measure => omega
          case rel => exact ⟨i + 1, h - tko + 1, by omega, rfl, rfl, by omega, by omega, by go_num, HZ, B5.trans (b6.mono B5.size)⟩
end Go.Proofs.YtbiomnnlpafciaaDoor
