import Derived.Test.YtkgbmgpdehmiiaaDoorY08
import Derived.Deep.Cut
import Derived.Deep.LoopGhost
import Derived.Ground.NamesProg
import Derived.IntWalk
import Derived.Laws.Cover1
import Derived.Laws.Externs
import Derived.Lib.Hide
import Derived.Lib.MakeNoZero
import Derived.Shelf.Lay
import Derived.WalkKit
import Derived.WalkSpells
import Derived.Laws.EntriesVeiled
set_option linter.unusedVariables false
set_option linter.unusedSimpArgs false
set_option maxHeartbeats 64000000
set_option maxRecDepth 100000
namespace Go.Proofs.YtkgbmgpdehmiiaaDoor
open Go.RowKit Go.IntWalk
set_option linter.unusedVariables false
set_option linter.unusedSimpArgs false
theorem ownL_plain {α : Type} {T : Kind α} {ok : Nat → Prop} {B : Nat} {w : World} {v : Value} {l : List α} (h : OwnX T ok w v l) (hk : ∀ k, v.ownBlock = some k → B ≤ k) (hE : ∀ ok ok' w cs a, T.E ok w cs a → T.E ok' w cs a) : OwnL T B w v l := by
  obtain ⟨D, ⟨h1, h2⟩, h3, h4⟩ := h
  refine ⟨D, ⟨h1, ?_⟩, fun j hj => hE _ _ _ _ _ (h4 j hj)⟩
  rcases h2 with h | ⟨g, cap, cur, e1, e2, e3⟩
  · exact .inl h
  · exact .inr ⟨g, cap, cur, e1, hk g (by rw [e1]; rfl), e3⟩
theorem OwnX.emptyRow {α : Type} {T : Kind α} {w : World} : OwnX T (fun i => i = w.heap.size) (w.alloc (.cells #[] T.ty (0, 0))) (.slice (some ⟨w.heap.size, 0, none⟩) 0 0) [] :=
  ⟨fun _ => [], ⟨by simp [flat], .inr ⟨w.heap.size, 0, #[], rfl, Nat.zero_le _, heap_new w _, Nat.le_refl _, Nat.zero_le _, by simp, by simp [flat]⟩⟩, fun k hk => by injection hk with hk; exact hk.symm, fun j hj => absurd hj (Nat.not_lt_zero _)⟩
theorem grown_asideO2 {w W' : World} {t : TypeId} (hg : (w.alloc (.cells #[] t (0, 0))).grownBy W' (Value.slice (some ⟨w.heap.size, 0, none⟩) 0 0).ownBlock) : Below w.heap.size w W' :=
  ⟨hg.os, hg.tape, hg.output, Nat.le_trans (by simp) hg.size, fun k hk => by
    rw [hg.block k (by simp; omega) (fun e => by injection e with e; have e2 : k = w.heap.size := e; omega)]
    exact Below.heap_alloc _ _ _ hk⟩
theorem row_nil {α : Type} {T : Kind α} {ok : Nat → Prop} {w : World} {n c : Nat} {l : List α} (h : HRow T ok w (.slice none n c) l) : l = [] := by
  obtain ⟨C, ⟨ao, cap, hv, h1, h2, h3⟩, hC⟩ := h
  injection hv with e1 e2 e3
  subst e1
  cases l with
  | nil => rfl
  | cons x r =>
    obtain ⟨b, o, e, _⟩ := h3 (by simp)
    cases e
theorem Tryd.infoLg : (Tryd.prog.info? 2).map (fun i => (i.zero, i.size, i.bytes)) = some (some (.int .i64 0), 1, 8) := by kernel_rfl
/-- long numbers -/
def kLong : Kind Int where
  ty := 2
  k := 1
  bytes := 8
  zero := .int .i64 0
  E := fun _ _ cs x => cs = [.int .i64 x]
  pos := by decide
  zs := rfl
  info := Tryd.infoLg
  len := by rintro _ _ _ _ rfl; rfl
  one := by rintro _ _ _ _ rfl; simp; rfl
  keep := by rintro _ _ _ _ _ rfl _ _; rfl
  wide := by rintro _ _ _ _ _ rfl _; rfl
theorem longs_row {ok : Nat → Prop} {w : World} {v : Value} {l : List Int} (h : HRow kLong ok w v l) : HInts ok w v l := h
set_option maxHeartbeats 8000000 in
theorem clone53_any {ok : Nat → Prop} {w : World} {v : Value} {l : List Int} (hl : HRow kInt ok w v l) (hlen : l.length ≤ 1000000) :
    Calls Tryd.prog 21 #[v] w fun e w' => ∃ v', e = .returned v' ∧ OwnL kInt w.heap.size w' v' l ∧ Below w.heap.size w w' := by
  obtain ⟨a, c, rfl, hc1, hc2⟩ := hl.form
  cases a with
  | none =>
    have h0 := row_nil hl
    subst h0
    clear hl
    have heq : ∀ W, (binOp BinOp.eql 22 (.slice none 0 c) (.slice none 0 0)).run Tryd.prog W = .ok (.bool true) W := fun W => by kernel_rfl
    go_enter Tryd.func21, Tryd.ntmps21
    go_wp2
    go_ret
    exact ⟨_, rfl, OwnL.nil, Below.refl _ _⟩
  | some ad =>
    have bA : Below w.heap.size w (w.alloc (.cells #[] 3 (0, 0))) := (Below.refl _ _).alloc (Nat.le_refl _) _
    have hl2 : HRow kInt (fun i => i < w.heap.size) (w.alloc (.cells #[] 3 (0, 0))) (.slice (some ad) l.length c) l := (hl.wide (ok' := fun i => i < w.heap.size) fun i _ h => h).keep bA.size (fun i _ h => bA.block i h)
    obtain ⟨v', w', hrun, hX, hg, hmv⟩ := run_joinO kInt 22 22 Tryd.underlying22 (OwnX.emptyRow (T := kInt) (w := w)) hl2 (fun k hk => by injection hk with hk; subst hk; exact Nat.lt_irrefl _) (by show (0 + l.length) * 8 ≤ 140737488355328; omega) (by simp; unfold maxLen; omega)
    have hB := (grown_asideO2 hg)
    have HX := hide hX
    have HMV := hide hmv
    have HG := hide hg
    have hrun2 : (Builtin.append_ #[22, 22] 22 #[.slice (some ⟨w.heap.size, 0, none⟩) 0 0, .slice (some ad) l.length c]).run Tryd.prog (w.alloc (.cells #[] 3 (0, 0))) = .ok v' w' := hrun
    clear hl hl2 hX hmv hg hrun
    have heq : ∀ W, (binOp BinOp.eql 22 (.slice (some ad) l.length c) (.slice none 0 0)).run Tryd.prog W = .ok (.bool false) W := fun W => by kernel_rfl
    go_enter Tryd.func21, Tryd.ntmps21
    go_wp2_with (at_builtin; refine wpList_joinO rfl _ _ 22 rfl _ _ _ (by rfl) (by rfl) hrun2 ?_)
    go_ret
    refine ⟨v', rfl, ownL_plain HX.out (fun k hk => ?_) (fun _ _ _ _ _ h => h), ?_⟩
    · rcases HMV.out with h | ⟨q, hq, hq2⟩
      · rw [h] at hk
        injection hk with hk
        have hk2 : w.heap.size = k := hk
        omega
      · rw [hq] at hk
        injection hk with hk
        subst hk
        have : (w.alloc (.cells #[] 3 (0, 0))).heap.size = w.heap.size + 1 := by simp
        have h3 : (w.alloc (.cells #[] 3 (0, 0))).heap.size ≤ q := hq2
        omega
    · exact hB
end Go.Proofs.YtkgbmgpdehmiiaaDoor
namespace Go.Proofs.YtkgbmgpdehmiiaaDoor
open Go.RowKit Go.IntWalk
set_option linter.unusedVariables false
set_option linter.unusedSimpArgs false
theorem heap_set_other (w : World) (p : Addr) (u : Value) {i : Nat} (h : p.block ≠ i) : (w.setCell p u).heap[i]? = w.heap[i]? := by
  cases e : w.heap[i]? with
  | none => 
    have hs : (w.setCell p u).heap.size = w.heap.size := by simp [World.setCell]
    rw [Array.getElem?_eq_none_iff] at e ⊢
    omega
  | some o => exact keep_set e h u
end Go.Proofs.YtkgbmgpdehmiiaaDoor
namespace Go.Proofs.YtkgbmgpdehmiiaaDoor
open Go Go.RowKit Go.IntWalk
def waits (md : Region.Mode) (o : Oper) : List Nat := (o.after.toList.filter (Region.binds md)).map (·.on)
/-- one more has come up -/
def also (D : Nat → Bool) (i : Nat) : Nat → Bool := fun j => j == i || D j
section
variable {P : Program} {ops : Array Oper} {Q : Exit → Act → World → Prop} {md : Region.Mode} {S : World → Prop} {late : Nat → Bool}
/-- each of these keeps the invariant when it comes up -/
def Keeps (P : Program) (md : Region.Mode) (ops : Array Oper) (Q : Exit → Act → World → Prop) (I : (Nat → Bool) → Act → World → Prop) (rs : List Nat) : Prop :=
  ∀ i ∈ rs, ∀ o, ops[i]? = some o → ∀ D a w, I D a w → D i = false → (∀ d ∈ waits md o, D d = true) → wpOp P ops Q i (fun a' w' => I (also D i) a' w') a w
theorem Keeps.skip {I : (Nat → Bool) → Act → World → Prop} {i : Nat} {rs : List Nat} (h : ∀ D a w, I D a w → D i = true) (hs : Keeps P md ops Q I rs) : Keeps P md ops Q I (i :: rs) := fun j hj => by
  rcases List.mem_cons.1 hj with rfl | hj
  · intro o ho D a w hI hD
    rw [h D a w hI] at hD
    cases hD
  · exact hs j hj
end
/-- a block of one cell, above B, that a slot points to -/
def Blk (w : World) (B : Nat) (t : Value) (ty : TypeId) (v : Value) : Prop := ∃ b, t = .pointer (some ⟨b, 0, none⟩) ∧ B ≤ b ∧ w.heap[b]? = some (.cells #[v] ty (0, 0))
theorem Blk.set {w : World} {B b : Nat} {z : Value} {ty : TypeId} (hb : B ≤ b) (k : w.heap[b]? = some (.cells #[z] ty (0, 0))) (u : Value) : Blk (w.setCell ⟨b, 0, none⟩ u) B (.pointer (some ⟨b, 0, none⟩)) ty u := ⟨_, rfl, hb, by have := set_in k 0 u; simpa using this⟩
theorem Blk.off {w : World} {B : Nat} {t : Value} {ty : TypeId} {v v' z : Value} {d d' : Bool} (h : Blk w B t ty (if d = true then v else z)) (e : d = false) (e' : d' = false) : Blk w B t ty (if d' = true then v' else z) := by
  subst e e'
  simpa using h
/-- a row of numbers below B in a slot -/
def SlI (B : Nat) (w : World) (t : Value) (l : List Int) : Prop := (∃ p q c, t = .slice p q c) ∧ HInts (fun i => i < B) w t l
theorem SlI.keep {B B1 : Nat} {w w' : World} {t : Value} {l : List Int} (h : SlI B w t l) (hb : Below B1 w w') (hB : B ≤ B1) : SlI B w' t l := ⟨h.1, h.2.keep hb.size (fun i hi _ => hb.block i (Nat.lt_of_lt_of_le hi hB))⟩
end Go.Proofs.YtkgbmgpdehmiiaaDoor
namespace Go.Proofs.YtkgbmgpdehmiiaaDoor
open Go.RowKit Go.IntWalk
set_option linter.unusedVariables false
set_option linter.unusedSimpArgs false
namespace Sk
def idxI (p : Int → Bool) : Nat → List Int → Int
  | _, [] => -1
  | i, x :: r => if p x = true then (i : Int) else idxI p (i + 1) r
theorem idxI_neg (p : Int → Bool) : ∀ (l : List Int) (i : Nat), (0 ≤ idxI p i l ↔ l.any p = true) ∧ (l.any p = false → idxI p i l = -1)
  | [], i => by simp [idxI]
  | x :: r, i => by
    unfold idxI
    by_cases h : p x = true
    · rw [if_pos h]
      simp [h]
    · rw [if_neg h]
      have := idxI_neg p r (i + 1)
      simp [h]
      simpa using this
end Sk
end Go.Proofs.YtkgbmgpdehmiiaaDoor
namespace Go.Proofs.YtkgbmgpdehmiiaaDoor
open Go.RowKit Go.IntWalk
set_option linter.unusedVariables false
set_option linter.unusedSimpArgs false
open Go in
theorem wpAnyL_three {P : Program} {ops : Array Oper} {Q : Exit → Act → World → Prop} {md : Region.Mode} {S : World → Prop} {late : Nat → Bool} {i j k : Nat} {oi oj ok : Oper} {fuel : Nat} {listed : Array Bool} {a : Act} {w : World} (hoi : ops[i]? = some oi) (hoj : ops[j]? = some oj) (hok : ops[k]? = some ok) (hr : Region.ready md ops listed = [i, j, k])
    (hwi : Region.wanted oi (yielded ops a.tmps) = true) (hwj : Region.wanted oj (yielded ops a.tmps) = true) (hwk : Region.wanted ok (yielded ops a.tmps) = true)
    (hi : ∀ K' : Act → World → Prop, Shut (∀ a w, (late i = false → S w) → wpAnyL P md ops Q S late fuel (listed.setIfInBounds i true) a w → K' a w) → Oper.wp P oi a w K' Q)
    (hj : ∀ K' : Act → World → Prop, Shut (∀ a w, (late j = false → S w) → wpAnyL P md ops Q S late fuel (listed.setIfInBounds j true) a w → K' a w) → Oper.wp P oj a w K' Q)
    (hk : ∀ K' : Act → World → Prop, Shut (∀ a w, (late k = false → S w) → wpAnyL P md ops Q S late fuel (listed.setIfInBounds k true) a w → K' a w) → Oper.wp P ok a w K' Q)
    : wpAnyL P md ops Q S late (fuel + 1) listed a w := by
  refine ⟨fun h0 => (by rw [hr] at h0; cases h0), fun q hq => ?_⟩
  rw [hr] at hq
  simp at hq
  rcases hq with rfl | rfl | rfl
  · refine wpOp_step hoi (fun K' hK => ?_)
    rw [if_pos hwi]
    exact hi K' (fun a w hS hW => hK a w ⟨hS, hW⟩)
  · refine wpOp_step hoj (fun K' hK => ?_)
    rw [if_pos hwj]
    exact hj K' (fun a w hS hW => hK a w ⟨hS, hW⟩)
  · refine wpOp_step hok (fun K' hK => ?_)
    rw [if_pos hwk]
    exact hk K' (fun a w hS hW => hK a w ⟨hS, hW⟩)
set_option maxHeartbeats 8000000 in
theorem indexFuncG_any {ok : Nat → Prop} {w : World} {v : Value} {l : List Int} {N : Nat} {bs cs : Array Value} {p : Int → Bool} (eg : ∀ args w, (callFunc N args).run Tryd.prog w = .ok (.enter N args) w) (hl : HInts ok w v l) (hp : ∀ x ∈ l, ∀ W, Below w.heap.size w W → Calls Tryd.prog N (bs ++ #[.int .i64 x] ++ cs) W fun e W' => e = .returned (.bool (p x)) ∧ Below W.heap.size W W') :
    Calls Tryd.prog 60 #[v, .func (.func N) bs cs] w fun e w' => e = .returned (.int .i64 (Sk.idxI p 0 l)) ∧ Below w.heap.size w w' := by
  obtain ⟨ao, cap, rfl, hc1, hc2, -⟩ := hl.at
  unfold maxLen at hc2
  obtain ⟨R, hR⟩ : ∃ R, R = Sk.idxI p 0 l := ⟨_, rfl⟩
  rw [← hR]
  have HR := hide (show R = Sk.idxI p 0 (l.drop 0) by rw [List.drop_zero]; exact hR)
  have HL := hide hl
  have HP := hide hp
  clear hR hl hp
  obtain ⟨n, hn⟩ : ∃ n, n = l.length := ⟨_, rfl⟩
  rw [← hn] at hc1 ⊢
  have HN := hide hn
  clear hn
  go_enter Tryd.func60, Tryd.ntmps60
  go_wp2_with fail
  go_loopg [8] n (fun k v wr => ∃ i, i ≤ n ∧ k = n - i ∧ v = .int .i64 (i : Nat) ∧ Hid (R = Sk.idxI p i (l.drop i)) ∧ Below w.heap.size w wr)
  case atStart => exact ⟨0, Nat.zero_le _, rfl, rfl, HR, Below.refl _ _⟩
  case round =>
    clear HR
    obtain ⟨i, hi, rfl, rfl, H, hbr⟩ := hrel
    by_cases hlt : i < n
    case neg =>
      have hin : i = n := by omega
      subst hin
      have e1 : l.drop i = [] := List.drop_of_length_le (by have := HN.out; omega)
      have HZ := hide (show R = -1 by rw [H.out, e1]; rfl)
      clear e1
      go_wp2
      go_ret
      exact ⟨by rw [HZ.out]; rfl, hbr⟩
    case pos =>
      have hil : i < l.length := by have := HN.out; omega
      have hdr : l.drop i = l[i] :: l.drop (i + 1) := List.drop_eq_getElem_cons hil
      have hR1 := H.out
      rw [hdr] at hR1
      obtain ⟨ao', cap', eqs, -, -, hat2⟩ := (HL.out.under hbr).at
      injection eqs with q1 q2 q3
      subst q1
      obtain ⟨bb, o, rfl, hb, e0⟩ := hat2 i hil
      obtain ⟨y, hy⟩ : ∃ y, y = l[i] := ⟨_, rfl⟩
      have hc := HP.out y (by rw [hy]; exact List.getElem_mem hil) wr hbr
      rw [← hy] at e0 hR1
      unfold Sk.idxI at hR1
      generalize p y = q at hc hR1
      have HR1 := hide hR1
      clear hat2 q2 q3 hy hdr hR1 H
      go_wp2_with fail
      refine hc.mono ?_
      rintro e w4 ⟨rfl, b4⟩
      have B4 := hbr.trans (b4.mono hbr.size)
      clear hc
      cases q
      case false =>
        have HZ : Hid (R = Sk.idxI p (i + 1) (l.drop (i + 1))) := hide (by rw [HR1.out]; simp)
        clear HR1
        go_wp2_with fail
        go_roundg (n - (i + 1))
        case measure => omega
        case rel => exact ⟨i + 1, by omega, rfl, by go_num, HZ, B4⟩
      case true =>
        have HZ : Hid (R = (i : Int)) := hide (by rw [HR1.out]; simp)
        clear HR1
        go_wp2
        go_ret
        exact ⟨by rw [HZ.out]; rfl, B4⟩
end Go.Proofs.YtkgbmgpdehmiiaaDoor
namespace Go.Proofs.YtkgbmgpdehmiiaaDoor
open Go.RowKit Go.IntWalk
set_option linter.unusedVariables false
set_option linter.unusedSimpArgs false
structure SpV where
  aF : Option Addr
  nF : Nat
  cF : Nat
  aE : Option Addr
  nE : Nat
  cE : Nat
def scs (r : Lo.Sp) (y : SpV) : List Value := [.int .i64 r.op, .int .i64 r.k, .int .i64 r.n, .int .i64 r.tgt, .slice y.aF y.nF y.cF, .slice y.aE y.nE y.cE]
theorem HPu.wide {ok ok' : Nat → Prop} {w : World} {v : Value} {l : List Pu} (h : HPu ok w v l) (hk : ∀ i, ok i → i < w.heap.size → ok' i) : HPu ok' w v l := by
  obtain ⟨C, h3, h4⟩ := h
  exact ⟨C, h3.wide hk, h4⟩
/-- its rows hold what it has -/
structure HSp (ok : Nat → Prop) (w : World) (y : SpV) (r : Lo.Sp) : Prop where
  F : HPu ok w (.slice y.aF y.nF y.cF) r.F
  E : HPu ok w (.slice y.aE y.nE y.cE) r.E
theorem HSp.keep {ok : Nat → Prop} {w w' : World} {y : SpV} {r : Lo.Sp} (h : HSp ok w y r) (h1 : w.heap.size ≤ w'.heap.size) (h2 : ∀ i, ok i → i < w.heap.size → w'.heap[i]? = w.heap[i]?) : HSp ok w' y r := ⟨h.F.keep h1 h2, h.E.keep h1 h2⟩
theorem HSp.under {ok : Nat → Prop} {w w' : World} {y : SpV} {r : Lo.Sp} (h : HSp ok w y r) (b : Below w.heap.size w w') : HSp ok w' y r := h.keep b.size fun i _ hl => b.block i hl
theorem HSp.wide {ok ok' : Nat → Prop} {w : World} {y : SpV} {r : Lo.Sp} (h : HSp ok w y r) (hk : ∀ i, ok i → i < w.heap.size → ok' i) : HSp ok' w y r := ⟨h.F.wide hk, h.E.wide hk⟩
/-- a row of rules -/
def HSps (ok : Nat → Prop) (w : World) (v : Value) (l : List Lo.Sp) : Prop := ∃ C, Sl ok 6 w v l.length C ∧ ∀ i (h : i < l.length), ∃ y, C i = scs l[i] y ∧ HSp ok w y l[i]
theorem HSps.keep {ok : Nat → Prop} {w w' : World} {v : Value} {l : List Lo.Sp} (h : HSps ok w v l) (h1 : w.heap.size ≤ w'.heap.size) (h2 : ∀ i, ok i → i < w.heap.size → w'.heap[i]? = w.heap[i]?) : HSps ok w' v l := by
  obtain ⟨C, h3, h4⟩ := h
  refine ⟨C, h3.keep h1 h2, fun i hi => ?_⟩
  obtain ⟨y, e, hy⟩ := h4 i hi
  exact ⟨y, e, hy.keep h1 h2⟩
theorem HSps.under {ok : Nat → Prop} {w w' : World} {v : Value} {l : List Lo.Sp} (h : HSps ok w v l) (b : Below w.heap.size w w') : HSps ok w' v l := h.keep b.size fun i _ hl => b.block i hl
theorem HSps.wide {ok ok' : Nat → Prop} {w : World} {v : Value} {l : List Lo.Sp} (h : HSps ok w v l) (hk : ∀ i, ok i → i < w.heap.size → ok' i) : HSps ok' w v l := by
  obtain ⟨C, h3, h4⟩ := h
  refine ⟨C, h3.wide hk, fun i hi => ?_⟩
  obtain ⟨y, e, hy⟩ := h4 i hi
  exact ⟨y, e, hy.wide hk⟩
/-- six cells of a rule at a place -/
def SpAt (w : World) (b o : Nat) (r : Lo.Sp) (y : SpV) : Prop :=
  w.cell? ⟨b, o, none⟩ = some (.int .i64 r.op) ∧ w.cell? ⟨b, o + 1, none⟩ = some (.int .i64 r.k) ∧ w.cell? ⟨b, o + 2, none⟩ = some (.int .i64 r.n) ∧ w.cell? ⟨b, o + 3, none⟩ = some (.int .i64 r.tgt) ∧ w.cell? ⟨b, o + 4, none⟩ = some (.slice y.aF y.nF y.cF) ∧ w.cell? ⟨b, o + 5, none⟩ = some (.slice y.aE y.nE y.cE)
theorem HSps.at {ok : Nat → Prop} {w : World} {v : Value} {l : List Lo.Sp} (h : HSps ok w v l) :
    ∃ ao cap, v = .slice ao l.length cap ∧ l.length ≤ cap ∧ cap ≤ maxLen ∧ ∀ i (h : i < l.length), ∃ b o y, ao = some ⟨b, o, none⟩ ∧ b < w.heap.size ∧ SpAt w b (o + i * 6) l[i] y ∧ HSp ok w y l[i] := by
  obtain ⟨C, ⟨ao, cap, hv, h1, h2, h3⟩, hC⟩ := h
  refine ⟨ao, cap, hv, h1, h2, fun i hi => ?_⟩
  obtain ⟨b, o, ha, hob, hb, hc⟩ := h3 (by omega)
  obtain ⟨y, e, hy⟩ := hC i hi
  have hcc := (hc i hi).2
  rw [e] at hcc
  refine ⟨b, o, y, ha, hb, ⟨?_, ?_, ?_, ?_, ?_, ?_⟩, hy⟩
  · have := hcc 0 (by decide); simp only [scs, Nat.add_zero, List.getElem?_cons_zero, List.getElem?_cons_succ] at this; exact this
  · have := hcc 1 (by decide); simp only [scs, Nat.add_zero, List.getElem?_cons_zero, List.getElem?_cons_succ] at this; exact this
  · have := hcc 2 (by decide); simp only [scs, Nat.add_zero, List.getElem?_cons_zero, List.getElem?_cons_succ] at this; exact this
  · have := hcc 3 (by decide); simp only [scs, Nat.add_zero, List.getElem?_cons_zero, List.getElem?_cons_succ] at this; exact this
  · have := hcc 4 (by decide); simp only [scs, Nat.add_zero, List.getElem?_cons_zero, List.getElem?_cons_succ] at this; exact this
  · have := hcc 5 (by decide); simp only [scs, Nat.add_zero, List.getElem?_cons_zero, List.getElem?_cons_succ] at this; exact this
end Go.Proofs.YtkgbmgpdehmiiaaDoor
