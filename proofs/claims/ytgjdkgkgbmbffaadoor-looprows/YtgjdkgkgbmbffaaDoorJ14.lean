import Derived.Test.YtgjdkgkgbmbffaaDoorJ11
import Derived.Deep.Cut
import Derived.Deep.LoopGhost
import Derived.Ground.NamesProg
import Derived.IntWalk
import Derived.Laws.Cover1
import Derived.Laws.EntriesVeiled
import Derived.Laws.Externs
import Derived.Lib.Hide
import Derived.Lib.MakeNoZero
import Derived.Lib.SlBuf
import Derived.Shelf.Bytes.SlSmallAll
import Derived.Shelf.Lay
import Derived.WalkKit
import Derived.WalkSpells
set_option linter.unusedVariables false
set_option linter.unusedSimpArgs false
set_option maxHeartbeats 64000000
set_option maxRecDepth 100000
namespace Go.Proofs.YtgjdkgkgbmbffaaDoor
open Go.RowKit Go.IntWalk
set_option linter.unusedVariables false
set_option linter.unusedSimpArgs false
theorem heap_set_other (w : World) (p : Addr) (u : Value) {i : Nat} (h : p.block ≠ i) : (w.setCell p u).heap[i]? = w.heap[i]? := by
  cases e : w.heap[i]? with
  | none => 
    have hs : (w.setCell p u).heap.size = w.heap.size := by simp [World.setCell]
    rw [Array.getElem?_eq_none_iff] at e ⊢
    omega
  | some o => exact keep_set e h u
end Go.Proofs.YtgjdkgkgbmbffaaDoor
namespace Go.Proofs.YtgjdkgkgbmbffaaDoor
open Go Go.RowKit Go.IntWalk
section
variable {P : Program} {ops : Array Oper} {Q : Exit → Act → World → Prop} {md : Region.Mode} {S : World → Prop} {late : Nat → Bool}
end
/-- a block of one cell, above B, that a slot points to -/
def Blk (w : World) (B : Nat) (t : Value) (ty : TypeId) (v : Value) : Prop := ∃ b, t = .pointer (some ⟨b, 0, none⟩) ∧ B ≤ b ∧ w.heap[b]? = some (.cells #[v] ty (0, 0))
theorem Blk.off {w : World} {B : Nat} {t : Value} {ty : TypeId} {v v' z : Value} {d d' : Bool} (h : Blk w B t ty (if d = true then v else z)) (e : d = false) (e' : d' = false) : Blk w B t ty (if d' = true then v' else z) := by
  subst e e'
  simpa using h
/-- a row of numbers below B in a slot -/
def SlI (B : Nat) (w : World) (t : Value) (l : List Int) : Prop := (∃ p q c, t = .slice p q c) ∧ HInts (fun i => i < B) w t l
theorem SlI.keep {B B1 : Nat} {w w' : World} {t : Value} {l : List Int} (h : SlI B w t l) (hb : Below B1 w w') (hB : B ≤ B1) : SlI B w' t l := ⟨h.1, h.2.keep hb.size (fun i hi _ => hb.block i (Nat.lt_of_lt_of_le hi hB))⟩
end Go.Proofs.YtgjdkgkgbmbffaaDoor
namespace Go.Proofs.YtgjdkgkgbmbffaaDoor
open Go.RowKit Go.IntWalk
set_option linter.unusedVariables false
set_option linter.unusedSimpArgs false
namespace Sk
def idxI (p : Int → Bool) : Nat → List Int → Int
  | _, [] => -1
  | i, x :: r => if p x = true then (i : Int) else idxI p (i + 1) r
theorem idxI_neg (p : Int → Bool) : ∀ (l : List Int) (i : Nat), (0 ≤ idxI p i l ↔ l.any p = true) ∧ (l.any p = false → idxI p i l = -1)
  | [], i => by simp [idxI]
  | x :: r, i => by
    unfold idxI
    by_cases h : p x = true
    · rw [if_pos h]
      simp [h]
    · rw [if_neg h]
      have := idxI_neg p r (i + 1)
      simp [h]
      simpa using this
end Sk
set_option maxHeartbeats 8000000 in
theorem indexFuncM_any {ok : Nat → Prop} {w : World} {v : Value} {l : List Int} {N : Nat} {a : Value} {p : Int → Bool} (eg : ∀ args w, (callFunc N args).run Tryd.prog w = .ok (.enter N args) w) (hl : HInts ok w v l) (hp : ∀ x ∈ l, ∀ W, Below w.heap.size w W → Calls Tryd.prog N #[a, .int .i64 x] W fun e W' => e = .returned (.bool (p x)) ∧ Below W.heap.size W W') :
    Calls Tryd.prog 35 #[v, .func (.func N) #[a] #[]] w fun e w' => e = .returned (.int .i64 (Sk.idxI p 0 l)) ∧ Below w.heap.size w w' := by
  obtain ⟨ao, cap, rfl, hc1, hc2, -⟩ := hl.at
  unfold maxLen at hc2
  obtain ⟨R, hR⟩ : ∃ R, R = Sk.idxI p 0 l := ⟨_, rfl⟩
  rw [← hR]
  have HR := hide (show R = Sk.idxI p 0 (l.drop 0) by rw [List.drop_zero]; exact hR)
  have HL := hide hl
  have HP := hide hp
  clear hR hl hp
  obtain ⟨n, hn⟩ : ∃ n, n = l.length := ⟨_, rfl⟩
  rw [← hn] at hc1 ⊢
  have HN := hide hn
  clear hn
  go_enter Tryd.func35, Tryd.ntmps35
  go_wp2_with fail
  go_loopg [8] n (fun k v wr => ∃ i, i ≤ n ∧ k = n - i ∧ v = .int .i64 (i : Nat) ∧ Hid (R = Sk.idxI p i (l.drop i)) ∧ Below w.heap.size w wr)
  case atStart => exact ⟨0, Nat.zero_le _, rfl, rfl, HR, Below.refl _ _⟩
  case round =>
    clear HR
    obtain ⟨i, hi, rfl, rfl, H, hbr⟩ := hrel
    by_cases hlt : i < n
    case neg =>
      have hin : i = n := by omega
      subst hin
      have e1 : l.drop i = [] := List.drop_of_length_le (by have := HN.out; omega)
      have HZ := hide (show R = -1 by rw [H.out, e1]; rfl)
      clear e1
      go_wp2
      go_ret
      exact ⟨by rw [HZ.out]; rfl, hbr⟩
    case pos =>
      have hil : i < l.length := by have := HN.out; omega
      have hdr : l.drop i = l[i] :: l.drop (i + 1) := List.drop_eq_getElem_cons hil
      have hR1 := H.out
      rw [hdr] at hR1
      obtain ⟨ao', cap', eqs, -, -, hat2⟩ := (HL.out.under hbr).at
      injection eqs with q1 q2 q3
      subst q1
      obtain ⟨bb, o, rfl, hb, e0⟩ := hat2 i hil
      obtain ⟨y, hy⟩ : ∃ y, y = l[i] := ⟨_, rfl⟩
      have hc := HP.out y (by rw [hy]; exact List.getElem_mem hil) wr hbr
      rw [← hy] at e0 hR1
      unfold Sk.idxI at hR1
      generalize p y = q at hc hR1
      have HR1 := hide hR1
      clear hat2 q2 q3 hy hdr hR1 H
      go_wp2_with fail
      refine hc.mono ?_
      rintro e w4 ⟨rfl, b4⟩
      have B4 := hbr.trans (b4.mono hbr.size)
      clear hc
      cases q
      case false =>
        have HZ : Hid (R = Sk.idxI p (i + 1) (l.drop (i + 1))) := hide (by rw [HR1.out]; simp)
        clear HR1
        go_wp2_with fail
        go_roundg (n - (i + 1))
        case measure => omega
        case rel => exact ⟨i + 1, by omega, rfl, by go_num, HZ, B4⟩
      case true =>
        have HZ : Hid (R = (i : Int)) := hide (by rw [HR1.out]; simp)
        clear HR1
        go_wp2
        go_ret
        exact ⟨by rw [HZ.out]; rfl, B4⟩
set_option maxHeartbeats 8000000 in
theorem containsFuncM_any {ok : Nat → Prop} {w : World} {v : Value} {l : List Int} {N : Nat} {a : Value} {p : Int → Bool} (eg : ∀ args w, (callFunc N args).run Tryd.prog w = .ok (.enter N args) w) (hl : HInts ok w v l) (hp : ∀ x ∈ l, ∀ W, Below w.heap.size w W → Calls Tryd.prog N #[a, .int .i64 x] W fun e W' => e = .returned (.bool (p x)) ∧ Below W.heap.size W W') :
    Calls Tryd.prog 21 #[v, .func (.func N) #[a] #[]] w fun e w' => e = .returned (.bool (l.any p)) ∧ Below w.heap.size w w' := by
  have hc := indexFuncM_any eg hl hp
  have hi := Sk.idxI_neg p l 0
  obtain ⟨ao, cap, rfl, -⟩ := hl.at
  generalize Sk.idxI p 0 l = R at hc hi
  have HI := hide hi
  clear hi hl hp eg
  generalize l.any p = q at HI ⊢
  go_enter Tryd.func21, Tryd.ntmps21
  go_wp2_with fail
  refine hc.mono ?_
  rintro e w4 ⟨rfl, b4⟩
  have hq : (decide (0 ≤ R)) = q := by
    have := HI.out.1
    cases q <;> simp at this ⊢ <;> omega
  go_wp2
  go_ret
  exact ⟨by rw [← hq]; rfl, b4⟩
end Go.Proofs.YtgjdkgkgbmbffaaDoor
namespace Go.Proofs.YtgjdkgkgbmbffaaDoor
open Go.RowKit Go.IntWalk
set_option linter.unusedVariables false
set_option linter.unusedSimpArgs false
structure SpV where
  aF : Option Addr
  nF : Nat
  cF : Nat
  aE : Option Addr
  nE : Nat
  cE : Nat
def scs (r : Lo.Sp) (y : SpV) : List Value := [.int .i64 r.op, .int .i64 r.k, .int .i64 r.n, .int .i64 r.tgt, .slice y.aF y.nF y.cF, .slice y.aE y.nE y.cE]
theorem HPu.wide {ok ok' : Nat → Prop} {w : World} {v : Value} {l : List Pu} (h : HPu ok w v l) (hk : ∀ i, ok i → i < w.heap.size → ok' i) : HPu ok' w v l := by
  obtain ⟨C, h3, h4⟩ := h
  exact ⟨C, h3.wide hk, h4⟩
/-- its rows hold what it has -/
structure HSp (ok : Nat → Prop) (w : World) (y : SpV) (r : Lo.Sp) : Prop where
  F : HPu ok w (.slice y.aF y.nF y.cF) r.F
  E : HPu ok w (.slice y.aE y.nE y.cE) r.E
theorem HSp.keep {ok : Nat → Prop} {w w' : World} {y : SpV} {r : Lo.Sp} (h : HSp ok w y r) (h1 : w.heap.size ≤ w'.heap.size) (h2 : ∀ i, ok i → i < w.heap.size → w'.heap[i]? = w.heap[i]?) : HSp ok w' y r := ⟨h.F.keep h1 h2, h.E.keep h1 h2⟩
theorem HSp.under {ok : Nat → Prop} {w w' : World} {y : SpV} {r : Lo.Sp} (h : HSp ok w y r) (b : Below w.heap.size w w') : HSp ok w' y r := h.keep b.size fun i _ hl => b.block i hl
theorem HSp.wide {ok ok' : Nat → Prop} {w : World} {y : SpV} {r : Lo.Sp} (h : HSp ok w y r) (hk : ∀ i, ok i → i < w.heap.size → ok' i) : HSp ok' w y r := ⟨h.F.wide hk, h.E.wide hk⟩
/-- a row of rules -/
def HSps (ok : Nat → Prop) (w : World) (v : Value) (l : List Lo.Sp) : Prop := ∃ C, Sl ok 6 w v l.length C ∧ ∀ i (h : i < l.length), ∃ y, C i = scs l[i] y ∧ HSp ok w y l[i]
theorem HSps.keep {ok : Nat → Prop} {w w' : World} {v : Value} {l : List Lo.Sp} (h : HSps ok w v l) (h1 : w.heap.size ≤ w'.heap.size) (h2 : ∀ i, ok i → i < w.heap.size → w'.heap[i]? = w.heap[i]?) : HSps ok w' v l := by
  obtain ⟨C, h3, h4⟩ := h
  refine ⟨C, h3.keep h1 h2, fun i hi => ?_⟩
  obtain ⟨y, e, hy⟩ := h4 i hi
  exact ⟨y, e, hy.keep h1 h2⟩
theorem HSps.under {ok : Nat → Prop} {w w' : World} {v : Value} {l : List Lo.Sp} (h : HSps ok w v l) (b : Below w.heap.size w w') : HSps ok w' v l := h.keep b.size fun i _ hl => b.block i hl
theorem HSps.wide {ok ok' : Nat → Prop} {w : World} {v : Value} {l : List Lo.Sp} (h : HSps ok w v l) (hk : ∀ i, ok i → i < w.heap.size → ok' i) : HSps ok' w v l := by
  obtain ⟨C, h3, h4⟩ := h
  refine ⟨C, h3.wide hk, fun i hi => ?_⟩
  obtain ⟨y, e, hy⟩ := h4 i hi
  exact ⟨y, e, hy.wide hk⟩
/-- six cells of a rule at a place -/
def SpAt (w : World) (b o : Nat) (r : Lo.Sp) (y : SpV) : Prop :=
  w.cell? ⟨b, o, none⟩ = some (.int .i64 r.op) ∧ w.cell? ⟨b, o + 1, none⟩ = some (.int .i64 r.k) ∧ w.cell? ⟨b, o + 2, none⟩ = some (.int .i64 r.n) ∧ w.cell? ⟨b, o + 3, none⟩ = some (.int .i64 r.tgt) ∧ w.cell? ⟨b, o + 4, none⟩ = some (.slice y.aF y.nF y.cF) ∧ w.cell? ⟨b, o + 5, none⟩ = some (.slice y.aE y.nE y.cE)
theorem HSps.at {ok : Nat → Prop} {w : World} {v : Value} {l : List Lo.Sp} (h : HSps ok w v l) :
    ∃ ao cap, v = .slice ao l.length cap ∧ l.length ≤ cap ∧ cap ≤ maxLen ∧ ∀ i (h : i < l.length), ∃ b o y, ao = some ⟨b, o, none⟩ ∧ b < w.heap.size ∧ SpAt w b (o + i * 6) l[i] y ∧ HSp ok w y l[i] := by
  obtain ⟨C, ⟨ao, cap, hv, h1, h2, h3⟩, hC⟩ := h
  refine ⟨ao, cap, hv, h1, h2, fun i hi => ?_⟩
  obtain ⟨b, o, ha, hob, hb, hc⟩ := h3 (by omega)
  obtain ⟨y, e, hy⟩ := hC i hi
  have hcc := (hc i hi).2
  rw [e] at hcc
  refine ⟨b, o, y, ha, hb, ⟨?_, ?_, ?_, ?_, ?_, ?_⟩, hy⟩
  · have := hcc 0 (by decide); simp only [scs, Nat.add_zero, List.getElem?_cons_zero, List.getElem?_cons_succ] at this; exact this
  · have := hcc 1 (by decide); simp only [scs, Nat.add_zero, List.getElem?_cons_zero, List.getElem?_cons_succ] at this; exact this
  · have := hcc 2 (by decide); simp only [scs, Nat.add_zero, List.getElem?_cons_zero, List.getElem?_cons_succ] at this; exact this
  · have := hcc 3 (by decide); simp only [scs, Nat.add_zero, List.getElem?_cons_zero, List.getElem?_cons_succ] at this; exact this
  · have := hcc 4 (by decide); simp only [scs, Nat.add_zero, List.getElem?_cons_zero, List.getElem?_cons_succ] at this; exact this
  · have := hcc 5 (by decide); simp only [scs, Nat.add_zero, List.getElem?_cons_zero, List.getElem?_cons_succ] at this; exact this
theorem Tryd.infoSp : (Tryd.prog.info? 54).map (fun i => (i.zero, i.size, i.bytes)) = some (some (.agg #[.int .i64 0, .int .i64 0, .int .i64 0, .int .i64 0, .slice none 0 0, .slice none 0 0]), 6, 80) := by kernel_rfl
def kSp : Kind Lo.Sp where
  ty := 54
  k := 6
  bytes := 80
  zero := .agg #[.int .i64 0, .int .i64 0, .int .i64 0, .int .i64 0, .slice none 0 0, .slice none 0 0]
  E := fun ok w cs r => ∃ y, cs = scs r y ∧ HSp ok w y r
  pos := by decide
  zs := rfl
  info := Tryd.infoSp
  len := by rintro _ _ _ _ ⟨y, rfl, _⟩; rfl
  one := by
    rintro _ _ _ _ ⟨y, rfl, _⟩ u hu
    simp [scs] at hu
    rcases hu with rfl | rfl | rfl | rfl | rfl | rfl <;> rfl
  keep := by rintro _ _ _ _ _ ⟨y, rfl, h⟩ hs hk; exact ⟨y, rfl, h.keep hs hk⟩
  wide := by rintro _ _ _ _ _ ⟨y, rfl, h⟩ hk; exact ⟨y, rfl, h.wide hk⟩
theorem sps_row {ok : Nat → Prop} {w : World} {v : Value} {l : List Lo.Sp} (h : HRow kSp ok w v l) : HSps ok w v l := h
end Go.Proofs.YtgjdkgkgbmbffaaDoor
