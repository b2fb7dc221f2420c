import Derived.Test.YtkgbmgpdehmiiaaDoorV16
import Derived.Deep.Cut
import Derived.Deep.LoopGhost
import Derived.Ground.NamesProg
import Derived.IntWalk
import Derived.Laws.Cover1
import Derived.Laws.Externs
import Derived.Lib.Hide
import Derived.Lib.MakeNoZero
import Derived.Shelf.Lay
import Derived.WalkKit
import Derived.WalkSpells
set_option linter.unusedVariables false
set_option linter.unusedSimpArgs false
set_option maxHeartbeats 64000000
set_option maxRecDepth 100000
namespace Go.Proofs.YtkgbmgpdehmiiaaDoor
open Go.RowKit Go.IntWalk
set_option linter.unusedVariables false
set_option linter.unusedSimpArgs false
open Go in
theorem wpAnyL_three {P : Program} {ops : Array Oper} {Q : Exit → Act → World → Prop} {md : Region.Mode} {S : World → Prop} {late : Nat → Bool} {i j k : Nat} {oi oj ok : Oper} {fuel : Nat} {listed : Array Bool} {a : Act} {w : World} (hoi : ops[i]? = some oi) (hoj : ops[j]? = some oj) (hok : ops[k]? = some ok) (hr : Region.ready md ops listed = [i, j, k])
    (hwi : Region.wanted oi (yielded ops a.tmps) = true) (hwj : Region.wanted oj (yielded ops a.tmps) = true) (hwk : Region.wanted ok (yielded ops a.tmps) = true)
    (hi : ∀ K' : Act → World → Prop, Shut (∀ a w, (late i = false → S w) → wpAnyL P md ops Q S late fuel (listed.setIfInBounds i true) a w → K' a w) → Oper.wp P oi a w K' Q)
    (hj : ∀ K' : Act → World → Prop, Shut (∀ a w, (late j = false → S w) → wpAnyL P md ops Q S late fuel (listed.setIfInBounds j true) a w → K' a w) → Oper.wp P oj a w K' Q)
    (hk : ∀ K' : Act → World → Prop, Shut (∀ a w, (late k = false → S w) → wpAnyL P md ops Q S late fuel (listed.setIfInBounds k true) a w → K' a w) → Oper.wp P ok a w K' Q)
    : wpAnyL P md ops Q S late (fuel + 1) listed a w := by
  refine ⟨fun h0 => (by rw [hr] at h0; cases h0), fun q hq => ?_⟩
  rw [hr] at hq
  simp at hq
  rcases hq with rfl | rfl | rfl
  · refine wpOp_step hoi (fun K' hK => ?_)
    rw [if_pos hwi]
    exact hi K' (fun a w hS hW => hK a w ⟨hS, hW⟩)
  · refine wpOp_step hoj (fun K' hK => ?_)
    rw [if_pos hwj]
    exact hj K' (fun a w hS hW => hK a w ⟨hS, hW⟩)
  · refine wpOp_step hok (fun K' hK => ?_)
    rw [if_pos hwk]
    exact hk K' (fun a w hS hW => hK a w ⟨hS, hW⟩)
set_option maxHeartbeats 8000000 in
theorem indexFuncG_any {ok : Nat → Prop} {w : World} {v : Value} {l : List Int} {N : Nat} {bs cs : Array Value} {p : Int → Bool} (eg : ∀ args w, (callFunc N args).run Tryd.prog w = .ok (.enter N args) w) (hl : HInts ok w v l) (hp : ∀ x ∈ l, ∀ W, Below w.heap.size w W → Calls Tryd.prog N (bs ++ #[.int .i64 x] ++ cs) W fun e W' => e = .returned (.bool (p x)) ∧ Below W.heap.size W W') :
    Calls Tryd.prog 60 #[v, .func (.func N) bs cs] w fun e w' => e = .returned (.int .i64 (Sk.idxI p 0 l)) ∧ Below w.heap.size w w' := by
  obtain ⟨ao, cap, rfl, hc1, hc2, -⟩ := hl.at
  unfold maxLen at hc2
  obtain ⟨R, hR⟩ : ∃ R, R = Sk.idxI p 0 l := ⟨_, rfl⟩
  rw [← hR]
  have HR := hide (show R = Sk.idxI p 0 (l.drop 0) by rw [List.drop_zero]; exact hR)
  have HL := hide hl
  have HP := hide hp
  clear hR hl hp
  obtain ⟨n, hn⟩ : ∃ n, n = l.length := ⟨_, rfl⟩
  rw [← hn] at hc1 ⊢
  have HN := hide hn
  clear hn
  go_enter Tryd.func60, Tryd.ntmps60
  go_wp2_with fail
  go_loopg [8] n (fun k v wr => ∃ i, i ≤ n ∧ k = n - i ∧ v = .int .i64 (i : Nat) ∧ Hid (R = Sk.idxI p i (l.drop i)) ∧ Below w.heap.size w wr)
  case atStart => exact ⟨0, Nat.zero_le _, rfl, rfl, HR, Below.refl _ _⟩
  case round =>
    clear HR
    obtain ⟨i, hi, rfl, rfl, H, hbr⟩ := hrel
    by_cases hlt : i < n
    case neg =>
      have hin : i = n := by omega
      subst hin
      have e1 : l.drop i = [] := List.drop_of_length_le (by have := HN.out; omega)
      have HZ := hide (show R = -1 by rw [H.out, e1]; rfl)
      clear e1
      go_wp2
      go_ret
      exact ⟨by rw [HZ.out]; rfl, hbr⟩
    case pos =>
      have hil : i < l.length := by have := HN.out; omega
      have hdr : l.drop i = l[i] :: l.drop (i + 1) := List.drop_eq_getElem_cons hil
      have hR1 := H.out
      rw [hdr] at hR1
      obtain ⟨ao', cap', eqs, -, -, hat2⟩ := (HL.out.under hbr).at
      injection eqs with q1 q2 q3
      subst q1
      obtain ⟨bb, o, rfl, hb, e0⟩ := hat2 i hil
      obtain ⟨y, hy⟩ : ∃ y, y = l[i] := ⟨_, rfl⟩
      have hc := HP.out y (by rw [hy]; exact List.getElem_mem hil) wr hbr
      rw [← hy] at e0 hR1
      unfold Sk.idxI at hR1
      generalize p y = q at hc hR1
      have HR1 := hide hR1
      clear hat2 q2 q3 hy hdr hR1 H
      go_wp2_with fail
      refine hc.mono ?_
      rintro e w4 ⟨rfl, b4⟩
      have B4 := hbr.trans (b4.mono hbr.size)
      clear hc
      cases q
      case false =>
        have HZ : Hid (R = Sk.idxI p (i + 1) (l.drop (i + 1))) := hide (by rw [HR1.out]; simp)
        clear HR1
        go_wp2_with fail
        go_roundg (n - (i + 1))
        case measure => omega
        case rel => exact ⟨i + 1, by omega, rfl, by go_num, HZ, B4⟩
      case true =>
        have HZ : Hid (R = (i : Int)) := hide (by rw [HR1.out]; simp)
        clear HR1
        go_wp2
        go_ret
        exact ⟨by rw [HZ.out]; rfl, B4⟩
end Go.Proofs.YtkgbmgpdehmiiaaDoor
namespace Go.Proofs.YtkgbmgpdehmiiaaDoor
open Go.RowKit Go.IntWalk
set_option linter.unusedVariables false
set_option linter.unusedSimpArgs false
structure SpV where
  aF : Option Addr
  nF : Nat
  cF : Nat
  aE : Option Addr
  nE : Nat
  cE : Nat
def scs (r : Lo.Sp) (y : SpV) : List Value := [.int .i64 r.op, .int .i64 r.k, .int .i64 r.n, .int .i64 r.tgt, .slice y.aF y.nF y.cF, .slice y.aE y.nE y.cE]
theorem HPu.wide {ok ok' : Nat → Prop} {w : World} {v : Value} {l : List Pu} (h : HPu ok w v l) (hk : ∀ i, ok i → i < w.heap.size → ok' i) : HPu ok' w v l := by
  obtain ⟨C, h3, h4⟩ := h
  exact ⟨C, h3.wide hk, h4⟩
/-- its rows hold what it has -/
structure HSp (ok : Nat → Prop) (w : World) (y : SpV) (r : Lo.Sp) : Prop where
  F : HPu ok w (.slice y.aF y.nF y.cF) r.F
  E : HPu ok w (.slice y.aE y.nE y.cE) r.E
theorem HSp.keep {ok : Nat → Prop} {w w' : World} {y : SpV} {r : Lo.Sp} (h : HSp ok w y r) (h1 : w.heap.size ≤ w'.heap.size) (h2 : ∀ i, ok i → i < w.heap.size → w'.heap[i]? = w.heap[i]?) : HSp ok w' y r := ⟨h.F.keep h1 h2, h.E.keep h1 h2⟩
theorem HSp.under {ok : Nat → Prop} {w w' : World} {y : SpV} {r : Lo.Sp} (h : HSp ok w y r) (b : Below w.heap.size w w') : HSp ok w' y r := h.keep b.size fun i _ hl => b.block i hl
theorem HSp.wide {ok ok' : Nat → Prop} {w : World} {y : SpV} {r : Lo.Sp} (h : HSp ok w y r) (hk : ∀ i, ok i → i < w.heap.size → ok' i) : HSp ok' w y r := ⟨h.F.wide hk, h.E.wide hk⟩
/-- a row of rules -/
def HSps (ok : Nat → Prop) (w : World) (v : Value) (l : List Lo.Sp) : Prop := ∃ C, Sl ok 6 w v l.length C ∧ ∀ i (h : i < l.length), ∃ y, C i = scs l[i] y ∧ HSp ok w y l[i]
theorem HSps.keep {ok : Nat → Prop} {w w' : World} {v : Value} {l : List Lo.Sp} (h : HSps ok w v l) (h1 : w.heap.size ≤ w'.heap.size) (h2 : ∀ i, ok i → i < w.heap.size → w'.heap[i]? = w.heap[i]?) : HSps ok w' v l := by
  obtain ⟨C, h3, h4⟩ := h
  refine ⟨C, h3.keep h1 h2, fun i hi => ?_⟩
  obtain ⟨y, e, hy⟩ := h4 i hi
  exact ⟨y, e, hy.keep h1 h2⟩
theorem HSps.under {ok : Nat → Prop} {w w' : World} {v : Value} {l : List Lo.Sp} (h : HSps ok w v l) (b : Below w.heap.size w w') : HSps ok w' v l := h.keep b.size fun i _ hl => b.block i hl
theorem HSps.wide {ok ok' : Nat → Prop} {w : World} {v : Value} {l : List Lo.Sp} (h : HSps ok w v l) (hk : ∀ i, ok i → i < w.heap.size → ok' i) : HSps ok' w v l := by
  obtain ⟨C, h3, h4⟩ := h
  refine ⟨C, h3.wide hk, fun i hi => ?_⟩
  obtain ⟨y, e, hy⟩ := h4 i hi
  exact ⟨y, e, hy.wide hk⟩
/-- six cells of a rule at a place -/
def SpAt (w : World) (b o : Nat) (r : Lo.Sp) (y : SpV) : Prop :=
  w.cell? ⟨b, o, none⟩ = some (.int .i64 r.op) ∧ w.cell? ⟨b, o + 1, none⟩ = some (.int .i64 r.k) ∧ w.cell? ⟨b, o + 2, none⟩ = some (.int .i64 r.n) ∧ w.cell? ⟨b, o + 3, none⟩ = some (.int .i64 r.tgt) ∧ w.cell? ⟨b, o + 4, none⟩ = some (.slice y.aF y.nF y.cF) ∧ w.cell? ⟨b, o + 5, none⟩ = some (.slice y.aE y.nE y.cE)
theorem HSps.at {ok : Nat → Prop} {w : World} {v : Value} {l : List Lo.Sp} (h : HSps ok w v l) :
    ∃ ao cap, v = .slice ao l.length cap ∧ l.length ≤ cap ∧ cap ≤ maxLen ∧ ∀ i (h : i < l.length), ∃ b o y, ao = some ⟨b, o, none⟩ ∧ b < w.heap.size ∧ SpAt w b (o + i * 6) l[i] y ∧ HSp ok w y l[i] := by
  obtain ⟨C, ⟨ao, cap, hv, h1, h2, h3⟩, hC⟩ := h
  refine ⟨ao, cap, hv, h1, h2, fun i hi => ?_⟩
  obtain ⟨b, o, ha, hob, hb, hc⟩ := h3 (by omega)
  obtain ⟨y, e, hy⟩ := hC i hi
  have hcc := (hc i hi).2
  rw [e] at hcc
  refine ⟨b, o, y, ha, hb, ⟨?_, ?_, ?_, ?_, ?_, ?_⟩, hy⟩
  · have := hcc 0 (by decide); simp only [scs, Nat.add_zero, List.getElem?_cons_zero, List.getElem?_cons_succ] at this; exact this
  · have := hcc 1 (by decide); simp only [scs, Nat.add_zero, List.getElem?_cons_zero, List.getElem?_cons_succ] at this; exact this
  · have := hcc 2 (by decide); simp only [scs, Nat.add_zero, List.getElem?_cons_zero, List.getElem?_cons_succ] at this; exact this
  · have := hcc 3 (by decide); simp only [scs, Nat.add_zero, List.getElem?_cons_zero, List.getElem?_cons_succ] at this; exact this
  · have := hcc 4 (by decide); simp only [scs, Nat.add_zero, List.getElem?_cons_zero, List.getElem?_cons_succ] at this; exact this
  · have := hcc 5 (by decide); simp only [scs, Nat.add_zero, List.getElem?_cons_zero, List.getElem?_cons_succ] at this; exact this
end Go.Proofs.YtkgbmgpdehmiiaaDoor
