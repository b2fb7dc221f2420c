import Derived.Test.YtkgbmgpdehmiiaaDoorV12
import Derived.WalkKit
import Derived.WalkSpells
import Derived.IntWalk
import Derived.Deep.Cut
import Derived.Deep.LoopGhost
import Derived.Laws.Cover1
import Derived.Lib.Hide
set_option linter.unusedVariables false
set_option linter.unusedSimpArgs false
set_option maxHeartbeats 64000000
set_option maxRecDepth 100000
namespace Go.Proofs.YtkgbmgpdehmiiaaDoor
open Go.RowKit Go.IntWalk
set_option linter.unusedVariables false
set_option linter.unusedSimpArgs false
namespace Cd
def In.cs (i : In) : List Value := [.int .i64 i.op, .int .i64 i.k, .int .i64 i.r, .int .i64 i.a, .int .i64 i.b, .int .i64 i.n]
end Cd
theorem Tryd.infoIn : (Tryd.prog.info? 52).map (fun i => (i.zero, i.size, i.bytes)) = some (some (.agg #[.int .i64 0, .int .i64 0, .int .i64 0, .int .i64 0, .int .i64 0, .int .i64 0]), 6, 48) := by kernel_rfl
def kIn : Kind Cd.In where
  ty := 52
  k := 6
  bytes := 48
  zero := .agg #[.int .i64 0, .int .i64 0, .int .i64 0, .int .i64 0, .int .i64 0, .int .i64 0]
  E := fun _ _ cs p => cs = p.cs
  pos := by decide
  zs := rfl
  info := Tryd.infoIn
  len := by rintro _ _ _ _ rfl; rfl
  one := by rintro _ _ _ _ rfl; intro u hu; simp [Cd.In.cs] at hu; rcases hu with rfl | rfl | rfl | rfl | rfl | rfl <;> rfl
  keep := by rintro _ _ _ _ _ rfl _ _; rfl
  wide := by rintro _ _ _ _ _ rfl _; rfl
def InAt (w : World) (b o : Nat) (i : Cd.In) : Prop :=
  w.cell? ⟨b, o, none⟩ = some (.int .i64 i.op) ∧ w.cell? ⟨b, o + 1, none⟩ = some (.int .i64 i.k) ∧ w.cell? ⟨b, o + 2, none⟩ = some (.int .i64 i.r) ∧ w.cell? ⟨b, o + 3, none⟩ = some (.int .i64 i.a) ∧ w.cell? ⟨b, o + 4, none⟩ = some (.int .i64 i.b) ∧ w.cell? ⟨b, o + 5, none⟩ = some (.int .i64 i.n)
def HIns (ok : Nat → Prop) (w : World) (v : Value) (l : List Cd.In) : Prop := HRow kIn ok w v l
theorem HIns.at {ok : Nat → Prop} {w : World} {v : Value} {l : List Cd.In} (h : HIns ok w v l) :
    ∃ ao cap, v = .slice ao l.length cap ∧ l.length ≤ cap ∧ cap ≤ maxLen ∧ ∀ i (h : i < l.length), ∃ b o, ao = some ⟨b, o, none⟩ ∧ b < w.heap.size ∧ InAt w b (o + i * 6) l[i] := by
  obtain ⟨C, ⟨ao, cap, hv, h1, h2, h3⟩, hC⟩ := h
  refine ⟨ao, cap, hv, h1, h2, fun i hi => ?_⟩
  obtain ⟨b, o, ha, hob, hb, hc⟩ := h3 (by omega)
  have e := hC i hi
  have e2 : C i = (l[i]).cs := e
  have hcc := (hc i hi).2
  rw [e2] at hcc
  refine ⟨b, o, ha, hb, ?_, ?_, ?_, ?_, ?_, ?_⟩
  · have := hcc 0 (by decide); simp only [Cd.In.cs, kIn, Nat.add_zero, List.getElem?_cons_zero, List.getElem?_cons_succ] at this; exact this
  · have := hcc 1 (by decide); simp only [Cd.In.cs, kIn, Nat.add_zero, List.getElem?_cons_zero, List.getElem?_cons_succ] at this; exact this
  · have := hcc 2 (by decide); simp only [Cd.In.cs, kIn, Nat.add_zero, List.getElem?_cons_zero, List.getElem?_cons_succ] at this; exact this
  · have := hcc 3 (by decide); simp only [Cd.In.cs, kIn, Nat.add_zero, List.getElem?_cons_zero, List.getElem?_cons_succ] at this; exact this
  · have := hcc 4 (by decide); simp only [Cd.In.cs, kIn, Nat.add_zero, List.getElem?_cons_zero, List.getElem?_cons_succ] at this; exact this
  · have := hcc 5 (by decide); simp only [Cd.In.cs, kIn, Nat.add_zero, List.getElem?_cons_zero, List.getElem?_cons_succ] at this; exact this
theorem HIns.keep {ok : Nat → Prop} {w w' : World} {v : Value} {l : List Cd.In} (h : HIns ok w v l) (h1 : w.heap.size ≤ w'.heap.size) (h2 : ∀ i, ok i → i < w.heap.size → w'.heap[i]? = w.heap[i]?) : HIns ok w' v l := HRow.keep h h1 h2
theorem HIns.under {ok : Nat → Prop} {w w' : World} {v : Value} {l : List Cd.In} (h : HIns ok w v l) (b : Below w.heap.size w w') : HIns ok w' v l := h.keep b.size fun i _ hl => b.block i hl
theorem HIns.wide {ok ok' : Nat → Prop} {w : World} {v : Value} {l : List Cd.In} (h : HIns ok w v l) (hk : ∀ i, ok i → i < w.heap.size → ok' i) : HIns ok' w v l := HRow.wide h hk
/-- an image in memory -/
structure HIm (ok : Nat → Prop) (w : World) (aP aB aG aL : Option Addr) (cP cB cG cL : Nat) (m : Cd.Im) : Prop where
  P : HInts ok w (.slice aP m.P.length cP) m.P
  B : HInts ok w (.slice aB m.B.length cB) m.B
  G : HInts ok w (.slice aG m.G.length cG) m.G
  L : HIns ok w (.slice aL m.l.length cL) m.l
  W : ∀ i ∈ m.l, I64 i.b
theorem HIm.keep {ok : Nat → Prop} {w w' : World} {aP aB aG aL : Option Addr} {cP cB cG cL : Nat} {m : Cd.Im} (h : HIm ok w aP aB aG aL cP cB cG cL m) (h1 : w.heap.size ≤ w'.heap.size) (h2 : ∀ i, ok i → i < w.heap.size → w'.heap[i]? = w.heap[i]?) : HIm ok w' aP aB aG aL cP cB cG cL m := ⟨h.P.keep h1 h2, h.B.keep h1 h2, h.G.keep h1 h2, h.L.keep h1 h2, h.W⟩
theorem HIm.under {ok : Nat → Prop} {w w' : World} {aP aB aG aL : Option Addr} {cP cB cG cL : Nat} {m : Cd.Im} (h : HIm ok w aP aB aG aL cP cB cG cL m) (b : Below w.heap.size w w') : HIm ok w' aP aB aG aL cP cB cG cL m := h.keep b.size fun i _ hl => b.block i hl
theorem HIm.wide {ok ok' : Nat → Prop} {w : World} {aP aB aG aL : Option Addr} {cP cB cG cL : Nat} {m : Cd.Im} (h : HIm ok w aP aB aG aL cP cB cG cL m) (hk : ∀ i, ok i → i < w.heap.size → ok' i) : HIm ok' w aP aB aG aL cP cB cG cL m := ⟨h.P.wide hk, h.B.wide hk, h.G.wide hk, h.L.wide hk, h.W⟩
end Go.Proofs.YtkgbmgpdehmiiaaDoor
namespace Go.Proofs.YtkgbmgpdehmiiaaDoor
open Go.RowKit Go.IntWalk
set_option linter.unusedVariables false
set_option linter.unusedSimpArgs false
theorem turn30_any (n : Int) (w : World) : Calls Tryd.prog 51 #[.int .i64 n] w fun e w' => e = .returned (.bool (Cd.turn n)) ∧ w' = w := by
  unfold Cd.turn
  by_cases h1 : 1 ≤ n
  · go_enter Tryd.func51, Tryd.ntmps51
    go_wp2
    go_ret
    exact ⟨by simp [h1], rfl⟩
  · go_enter Tryd.func51, Tryd.ntmps51
    go_wp2
    go_ret
    exact ⟨by simp [h1]; omega, rfl⟩
theorem opnd29_any (k : Int) (w : World) (hG : GlobK w) : Calls Tryd.prog 50 #[.int .i64 k] w fun e w' => e = .returned (.int .i64 (Kd.opT k).2.2) ∧ Below w.heap.size w w' := by
  have hc := op_any k w hG
  generalize Kd.opT k = q at hc ⊢
  obtain ⟨q1, q2, q3⟩ := q
  go_enter Tryd.func50, Tryd.ntmps50
  go_wp2_with (go_at_call 62; refine hc.mono ?_; rintro e w' ⟨rfl, b1⟩)
  go_ret
  exact ⟨rfl, b1⟩
theorem has27_any (c R f n : Int) (w : World) (h : I64 (c - n)) : Calls Tryd.prog 48 #[.agg #[.int .i64 c, .int .i64 R], .int .i64 f, .int .i64 n] w fun e w' => e = .returned (.bool (Cd.has c f n)) ∧ Below w.heap.size w w' := by
  have b1 : Below w.heap.size w (w.alloc (.cells #[.int .i64 c, .int .i64 R] 72 (0, 0))) := (Below.refl _ _).alloc (Nat.le_refl _) _
  have hw := w64_in h
  unfold Cd.has
  by_cases h1 : 0 ≤ f
  · go_enter Tryd.func48, Tryd.ntmps48
    go_wp2
    go_ret
    exact ⟨by simp [h1], b1⟩
  · go_enter Tryd.func48, Tryd.ntmps48
    go_wp2
    go_ret
    exact ⟨by simp [show ¬ 0 ≤ f by omega], b1⟩
theorem cell26_any (b : Nat) (c R x : Int) (w : World) (h : I64 (c - 1)) (k : w.heap[b]? = some (.cells #[.int .i64 c, .int .i64 R] 72 (0, 0))) : Calls Tryd.prog 47 #[.int .i64 x, .pointer (some ⟨b, 0, none⟩)] w fun e w' => e = .returned (.bool (!Cd.has c x 1)) ∧ Below w.heap.size w w' := by
  have hc := has27_any c R x 1 w h
  generalize Cd.has c x 1 = q at hc ⊢
  have s0 := cell_of k 0
  have s1 := cell_of k 1
  simp at s0 s1
  go_enter Tryd.func47, Tryd.ntmps47
  go_wp2_with (go_at_call 48; refine hc.mono ?_; rintro e w' ⟨rfl, b1⟩)
  go_ret
  exact ⟨by simp, b1⟩
theorem reg35_any (b : Nat) (c R x : Int) (w : World) (k : w.heap[b]? = some (.cells #[.int .i64 c, .int .i64 R] 72 (0, 0))) : Calls Tryd.prog 61 #[.int .i64 x, .pointer (some ⟨b, 0, none⟩)] w fun e w' => e = .returned (.bool (Cd.lk R x)) ∧ Below w.heap.size w w' := by
  have s0 := cell_of k 0
  have s1 := cell_of k 1
  simp at s0 s1
  unfold Cd.lk
  by_cases h1 : x < 0
  · go_enter Tryd.func61, Tryd.ntmps61
    go_wp2
    go_ret
    exact ⟨by simp [h1], Below.refl _ _⟩
  · go_enter Tryd.func61, Tryd.ntmps61
    go_wp2
    go_ret
    exact ⟨by simp [h1]; omega, Below.refl _ _⟩
theorem may13_any (c R : Int) (w : World) : Calls Tryd.prog 34 #[.agg #[.int .i64 c, .int .i64 R]] w fun e w' => e = .returned (.bool (decide (1 ≤ c ∧ c ≤ 6000 ∧ 1 ≤ R ∧ R ≤ 40))) ∧ Below w.heap.size w w' := by
  have b1 : Below w.heap.size w (w.alloc (.cells #[.int .i64 c, .int .i64 R] 72 (0, 0))) := (Below.refl _ _).alloc (Nat.le_refl _) _
  by_cases h1 : 1 ≤ c
  case neg =>
    rw [decide_eq_false (by omega)]
    go_enter Tryd.func34, Tryd.ntmps34
    go_wp2
    go_ret
    exact ⟨rfl, b1⟩
  by_cases h2 : c ≤ 6000
  case neg =>
    rw [decide_eq_false (by omega)]
    go_enter Tryd.func34, Tryd.ntmps34
    go_wp2
    go_ret
    exact ⟨rfl, b1⟩
  by_cases h3 : 1 ≤ R
  case neg =>
    rw [decide_eq_false (by omega)]
    go_enter Tryd.func34, Tryd.ntmps34
    go_wp2
    go_ret
    exact ⟨rfl, b1⟩
  by_cases h4 : R ≤ 40
  case neg =>
    rw [decide_eq_false (by omega)]
    go_enter Tryd.func34, Tryd.ntmps34
    go_wp2
    go_ret
    exact ⟨rfl, b1⟩
  rw [decide_eq_true ⟨h1, h2, h3, h4⟩]
  go_enter Tryd.func34, Tryd.ntmps34
  go_wp2
  go_ret
  exact ⟨rfl, b1⟩
theorem many14_any (c R k : Int) {aP aB aG aL : Option Addr} {nP nB nG nL cP cB cG cL : Nat} (w : World) : Calls Tryd.prog 35 #[.agg #[.int .i64 c, .int .i64 R, .int .i64 k, .slice aP nP cP, .slice aB nB cB, .slice aG nG cG, .slice aL nL cL]] w fun e w' => e = .returned (.bool (decide (6000 < (nP : Int)) || decide (6000 < (nB : Int)) || decide (120000 < (nG : Int)) || decide (200000 < (nL : Int)))) ∧ Below w.heap.size w w' := by
  have b1 : Below w.heap.size w (w.alloc (.cells #[.int .i64 c, .int .i64 R, .int .i64 k, .slice aP nP cP, .slice aB nB cB, .slice aG nG cG, .slice aL nL cL] 25 (0, 0))) := (Below.refl _ _).alloc (Nat.le_refl _) _
  by_cases h0 : 6000 < (nP : Int)
  case pos =>
    go_enter Tryd.func35, Tryd.ntmps35
    go_wp2
    go_ret
    exact ⟨by simp [h0], b1⟩
  by_cases h1 : 6000 < (nB : Int)
  case pos =>
    go_enter Tryd.func35, Tryd.ntmps35
    go_wp2
    go_ret
    exact ⟨by simp [h0, h1], b1⟩
  by_cases h2 : 120000 < (nG : Int)
  case pos =>
    go_enter Tryd.func35, Tryd.ntmps35
    go_wp2
    go_ret
    exact ⟨by simp [h0, h1, h2], b1⟩
  by_cases h3 : 200000 < (nL : Int)
  case pos =>
    go_enter Tryd.func35, Tryd.ntmps35
    go_wp2
    go_ret
    exact ⟨by simp [h0, h1, h2, h3], b1⟩
  go_enter Tryd.func35, Tryd.ntmps35
  go_wp2
  go_ret
  exact ⟨by simp [h0, h1, h2, h3], b1⟩
end Go.Proofs.YtkgbmgpdehmiiaaDoor
