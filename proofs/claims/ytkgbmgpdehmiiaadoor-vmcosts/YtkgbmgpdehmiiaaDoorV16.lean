import Derived.Test.YtkgbmgpdehmiiaaDoorV15
import Derived.Deep.Cut
import Derived.Deep.LoopGhost
import Derived.Ground.NamesProg
import Derived.IntWalk
import Derived.Laws.Cover1
import Derived.Laws.Externs
import Derived.Lib.Hide
import Derived.Lib.MakeNoZero
import Derived.Shelf.Lay
import Derived.WalkKit
import Derived.WalkSpells
import Derived.Laws.EntriesVeiled
set_option linter.unusedVariables false
set_option linter.unusedSimpArgs false
set_option maxHeartbeats 64000000
set_option maxRecDepth 100000
namespace Go.Proofs.YtkgbmgpdehmiiaaDoor
open Go.RowKit Go.IntWalk
set_option linter.unusedVariables false
set_option linter.unusedSimpArgs false
theorem ownL_plain {α : Type} {T : Kind α} {ok : Nat → Prop} {B : Nat} {w : World} {v : Value} {l : List α} (h : OwnX T ok w v l) (hk : ∀ k, v.ownBlock = some k → B ≤ k) (hE : ∀ ok ok' w cs a, T.E ok w cs a → T.E ok' w cs a) : OwnL T B w v l := by
  obtain ⟨D, ⟨h1, h2⟩, h3, h4⟩ := h
  refine ⟨D, ⟨h1, ?_⟩, fun j hj => hE _ _ _ _ _ (h4 j hj)⟩
  rcases h2 with h | ⟨g, cap, cur, e1, e2, e3⟩
  · exact .inl h
  · exact .inr ⟨g, cap, cur, e1, hk g (by rw [e1]; rfl), e3⟩
theorem OwnX.emptyRow {α : Type} {T : Kind α} {w : World} : OwnX T (fun i => i = w.heap.size) (w.alloc (.cells #[] T.ty (0, 0))) (.slice (some ⟨w.heap.size, 0, none⟩) 0 0) [] :=
  ⟨fun _ => [], ⟨by simp [flat], .inr ⟨w.heap.size, 0, #[], rfl, Nat.zero_le _, heap_new w _, Nat.le_refl _, Nat.zero_le _, by simp, by simp [flat]⟩⟩, fun k hk => by injection hk with hk; exact hk.symm, fun j hj => absurd hj (Nat.not_lt_zero _)⟩
theorem grown_asideO2 {w W' : World} {t : TypeId} (hg : (w.alloc (.cells #[] t (0, 0))).grownBy W' (Value.slice (some ⟨w.heap.size, 0, none⟩) 0 0).ownBlock) : Below w.heap.size w W' :=
  ⟨hg.os, hg.tape, hg.output, Nat.le_trans (by simp) hg.size, fun k hk => by
    rw [hg.block k (by simp; omega) (fun e => by injection e with e; have e2 : k = w.heap.size := e; omega)]
    exact Below.heap_alloc _ _ _ hk⟩
theorem row_nil {α : Type} {T : Kind α} {ok : Nat → Prop} {w : World} {n c : Nat} {l : List α} (h : HRow T ok w (.slice none n c) l) : l = [] := by
  obtain ⟨C, ⟨ao, cap, hv, h1, h2, h3⟩, hC⟩ := h
  injection hv with e1 e2 e3
  subst e1
  cases l with
  | nil => rfl
  | cons x r =>
    obtain ⟨b, o, e, _⟩ := h3 (by simp)
    cases e
theorem Tryd.infoLg : (Tryd.prog.info? 2).map (fun i => (i.zero, i.size, i.bytes)) = some (some (.int .i64 0), 1, 8) := by kernel_rfl
/-- long numbers -/
def kLong : Kind Int where
  ty := 2
  k := 1
  bytes := 8
  zero := .int .i64 0
  E := fun _ _ cs x => cs = [.int .i64 x]
  pos := by decide
  zs := rfl
  info := Tryd.infoLg
  len := by rintro _ _ _ _ rfl; rfl
  one := by rintro _ _ _ _ rfl; simp; rfl
  keep := by rintro _ _ _ _ _ rfl _ _; rfl
  wide := by rintro _ _ _ _ _ rfl _; rfl
theorem longs_row {ok : Nat → Prop} {w : World} {v : Value} {l : List Int} (h : HRow kLong ok w v l) : HInts ok w v l := h
set_option maxHeartbeats 8000000 in
theorem clone53_any {ok : Nat → Prop} {w : World} {v : Value} {l : List Int} (hl : HRow kInt ok w v l) (hlen : l.length ≤ 1000000) :
    Calls Tryd.prog 21 #[v] w fun e w' => ∃ v', e = .returned v' ∧ OwnL kInt w.heap.size w' v' l ∧ Below w.heap.size w w' := by
  obtain ⟨a, c, rfl, hc1, hc2⟩ := hl.form
  cases a with
  | none =>
    have h0 := row_nil hl
    subst h0
    clear hl
    have heq : ∀ W, (binOp BinOp.eql 22 (.slice none 0 c) (.slice none 0 0)).run Tryd.prog W = .ok (.bool true) W := fun W => by kernel_rfl
    go_enter Tryd.func21, Tryd.ntmps21
    go_wp2
    go_ret
    exact ⟨_, rfl, OwnL.nil, Below.refl _ _⟩
  | some ad =>
    have bA : Below w.heap.size w (w.alloc (.cells #[] 3 (0, 0))) := (Below.refl _ _).alloc (Nat.le_refl _) _
    have hl2 : HRow kInt (fun i => i < w.heap.size) (w.alloc (.cells #[] 3 (0, 0))) (.slice (some ad) l.length c) l := (hl.wide (ok' := fun i => i < w.heap.size) fun i _ h => h).keep bA.size (fun i _ h => bA.block i h)
    obtain ⟨v', w', hrun, hX, hg, hmv⟩ := run_joinO kInt 22 22 Tryd.underlying22 (OwnX.emptyRow (T := kInt) (w := w)) hl2 (fun k hk => by injection hk with hk; subst hk; exact Nat.lt_irrefl _) (by show (0 + l.length) * 8 ≤ 140737488355328; omega) (by simp; unfold maxLen; omega)
    have hB := (grown_asideO2 hg)
    have HX := hide hX
    have HMV := hide hmv
    have HG := hide hg
    have hrun2 : (Builtin.append_ #[22, 22] 22 #[.slice (some ⟨w.heap.size, 0, none⟩) 0 0, .slice (some ad) l.length c]).run Tryd.prog (w.alloc (.cells #[] 3 (0, 0))) = .ok v' w' := hrun
    clear hl hl2 hX hmv hg hrun
    have heq : ∀ W, (binOp BinOp.eql 22 (.slice (some ad) l.length c) (.slice none 0 0)).run Tryd.prog W = .ok (.bool false) W := fun W => by kernel_rfl
    go_enter Tryd.func21, Tryd.ntmps21
    go_wp2_with (at_builtin; refine wpList_joinO rfl _ _ 22 rfl _ _ _ (by rfl) (by rfl) hrun2 ?_)
    go_ret
    refine ⟨v', rfl, ownL_plain HX.out (fun k hk => ?_) (fun _ _ _ _ _ h => h), ?_⟩
    · rcases HMV.out with h | ⟨q, hq, hq2⟩
      · rw [h] at hk
        injection hk with hk
        have hk2 : w.heap.size = k := hk
        omega
      · rw [hq] at hk
        injection hk with hk
        subst hk
        have : (w.alloc (.cells #[] 3 (0, 0))).heap.size = w.heap.size + 1 := by simp
        have h3 : (w.alloc (.cells #[] 3 (0, 0))).heap.size ≤ q := hq2
        omega
    · exact hB
end Go.Proofs.YtkgbmgpdehmiiaaDoor
namespace Go.Proofs.YtkgbmgpdehmiiaaDoor
open Go.RowKit Go.IntWalk
set_option linter.unusedVariables false
set_option linter.unusedSimpArgs false
theorem heap_set_other (w : World) (p : Addr) (u : Value) {i : Nat} (h : p.block ≠ i) : (w.setCell p u).heap[i]? = w.heap[i]? := by
  cases e : w.heap[i]? with
  | none => 
    have hs : (w.setCell p u).heap.size = w.heap.size := by simp [World.setCell]
    rw [Array.getElem?_eq_none_iff] at e ⊢
    omega
  | some o => exact keep_set e h u
end Go.Proofs.YtkgbmgpdehmiiaaDoor
namespace Go.Proofs.YtkgbmgpdehmiiaaDoor
open Go Go.RowKit Go.IntWalk
section
variable {P : Program} {ops : Array Oper} {Q : Exit → Act → World → Prop} {md : Region.Mode} {S : World → Prop} {late : Nat → Bool}
end
/-- a block of one cell, above B, that a slot points to -/
def Blk (w : World) (B : Nat) (t : Value) (ty : TypeId) (v : Value) : Prop := ∃ b, t = .pointer (some ⟨b, 0, none⟩) ∧ B ≤ b ∧ w.heap[b]? = some (.cells #[v] ty (0, 0))
theorem Blk.set {w : World} {B b : Nat} {z : Value} {ty : TypeId} (hb : B ≤ b) (k : w.heap[b]? = some (.cells #[z] ty (0, 0))) (u : Value) : Blk (w.setCell ⟨b, 0, none⟩ u) B (.pointer (some ⟨b, 0, none⟩)) ty u := ⟨_, rfl, hb, by have := set_in k 0 u; simpa using this⟩
theorem Blk.off {w : World} {B : Nat} {t : Value} {ty : TypeId} {v v' z : Value} {d d' : Bool} (h : Blk w B t ty (if d = true then v else z)) (e : d = false) (e' : d' = false) : Blk w B t ty (if d' = true then v' else z) := by
  subst e e'
  simpa using h
/-- a row of numbers below B in a slot -/
def SlI (B : Nat) (w : World) (t : Value) (l : List Int) : Prop := (∃ p q c, t = .slice p q c) ∧ HInts (fun i => i < B) w t l
theorem SlI.keep {B B1 : Nat} {w w' : World} {t : Value} {l : List Int} (h : SlI B w t l) (hb : Below B1 w w') (hB : B ≤ B1) : SlI B w' t l := ⟨h.1, h.2.keep hb.size (fun i hi _ => hb.block i (Nat.lt_of_lt_of_le hi hB))⟩
end Go.Proofs.YtkgbmgpdehmiiaaDoor
namespace Go.Proofs.YtkgbmgpdehmiiaaDoor
open Go.RowKit Go.IntWalk
set_option linter.unusedVariables false
set_option linter.unusedSimpArgs false
namespace Sk
def idxI (p : Int → Bool) : Nat → List Int → Int
  | _, [] => -1
  | i, x :: r => if p x = true then (i : Int) else idxI p (i + 1) r
theorem idxI_neg (p : Int → Bool) : ∀ (l : List Int) (i : Nat), (0 ≤ idxI p i l ↔ l.any p = true) ∧ (l.any p = false → idxI p i l = -1)
  | [], i => by simp [idxI]
  | x :: r, i => by
    unfold idxI
    by_cases h : p x = true
    · rw [if_pos h]
      simp [h]
    · rw [if_neg h]
      have := idxI_neg p r (i + 1)
      simp [h]
      simpa using this
end Sk
end Go.Proofs.YtkgbmgpdehmiiaaDoor
