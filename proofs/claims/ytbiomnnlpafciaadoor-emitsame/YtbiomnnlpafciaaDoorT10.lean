import Derived.Test.YtbiomnnlpafciaaDoorT09
import Derived.Deep.Cut
import Derived.Deep.LoopGhost
import Derived.Ground.NamesProg
import Derived.IntWalk
import Derived.Laws.Cover1
import Derived.Laws.Externs
import Derived.Lib.Hide
import Derived.Lib.MakeNoZero
import Derived.Shelf.Lay
import Derived.WalkKit
import Derived.WalkSpells
import Derived.Laws.EntriesVeiled
set_option linter.unusedVariables false
set_option linter.unusedSimpArgs false
set_option maxHeartbeats 64000000
set_option maxRecDepth 100000
namespace Go.Proofs.YtbiomnnlpafciaaDoor
open Go.RowKit Go.IntWalk
set_option linter.unusedVariables false
set_option linter.unusedSimpArgs false
theorem ownL_plain {α : Type} {T : Kind α} {ok : Nat → Prop} {B : Nat} {w : World} {v : Value} {l : List α} (h : OwnX T ok w v l) (hk : ∀ k, v.ownBlock = some k → B ≤ k) (hE : ∀ ok ok' w cs a, T.E ok w cs a → T.E ok' w cs a) : OwnL T B w v l := by
  obtain ⟨D, ⟨h1, h2⟩, h3, h4⟩ := h
  refine ⟨D, ⟨h1, ?_⟩, fun j hj => hE _ _ _ _ _ (h4 j hj)⟩
  rcases h2 with h | ⟨g, cap, cur, e1, e2, e3⟩
  · exact .inl h
  · exact .inr ⟨g, cap, cur, e1, hk g (by rw [e1]; rfl), e3⟩
theorem OwnX.emptyRow {α : Type} {T : Kind α} {w : World} : OwnX T (fun i => i = w.heap.size) (w.alloc (.cells #[] T.ty (0, 0))) (.slice (some ⟨w.heap.size, 0, none⟩) 0 0) [] :=
  ⟨fun _ => [], ⟨by simp [flat], .inr ⟨w.heap.size, 0, #[], rfl, Nat.zero_le _, heap_new w _, Nat.le_refl _, Nat.zero_le _, by simp, by simp [flat]⟩⟩, fun k hk => by injection hk with hk; exact hk.symm, fun j hj => absurd hj (Nat.not_lt_zero _)⟩
theorem grown_asideO2 {w W' : World} {t : TypeId} (hg : (w.alloc (.cells #[] t (0, 0))).grownBy W' (Value.slice (some ⟨w.heap.size, 0, none⟩) 0 0).ownBlock) : Below w.heap.size w W' :=
  ⟨hg.os, hg.tape, hg.output, Nat.le_trans (by simp) hg.size, fun k hk => by
    rw [hg.block k (by simp; omega) (fun e => by injection e with e; have e2 : k = w.heap.size := e; omega)]
    exact Below.heap_alloc _ _ _ hk⟩
theorem row_nil {α : Type} {T : Kind α} {ok : Nat → Prop} {w : World} {n c : Nat} {l : List α} (h : HRow T ok w (.slice none n c) l) : l = [] := by
  obtain ⟨C, ⟨ao, cap, hv, h1, h2, h3⟩, hC⟩ := h
  injection hv with e1 e2 e3
  subst e1
  cases l with
  | nil => rfl
  | cons x r =>
    obtain ⟨b, o, e, _⟩ := h3 (by simp)
    cases e
theorem Tryd.infoPu : (Tryd.prog.info? 59).map (fun i => (i.zero, i.size, i.bytes)) = some (some (.agg #[.int .i64 0, .int .i64 0, .int .i64 0, .int .i64 0]), 4, 32) := by kernel_rfl
def kPu : Kind Pu where
  ty := 59
  k := 4
  bytes := 32
  zero := .agg #[.int .i64 0, .int .i64 0, .int .i64 0, .int .i64 0]
  E := fun _ _ cs p => cs = p.cs
  pos := by decide
  zs := rfl
  info := Tryd.infoPu
  len := by rintro _ _ _ _ rfl; rfl
  one := by rintro _ _ _ _ rfl; intro u hu; simp [Pu.cs] at hu; rcases hu with rfl | rfl | rfl | rfl <;> rfl
  keep := by rintro _ _ _ _ _ rfl _ _; rfl
  wide := by rintro _ _ _ _ _ rfl _; rfl
theorem pus_row {ok : Nat → Prop} {w : World} {v : Value} {l : List Pu} (h : HRow kPu ok w v l) : HPu ok w v l := h
theorem Tryd.infoLg : (Tryd.prog.info? 2).map (fun i => (i.zero, i.size, i.bytes)) = some (some (.int .i64 0), 1, 8) := by kernel_rfl
/-- long numbers -/
def kLong : Kind Int where
  ty := 2
  k := 1
  bytes := 8
  zero := .int .i64 0
  E := fun _ _ cs x => cs = [.int .i64 x]
  pos := by decide
  zs := rfl
  info := Tryd.infoLg
  len := by rintro _ _ _ _ rfl; rfl
  one := by rintro _ _ _ _ rfl; simp; rfl
  keep := by rintro _ _ _ _ _ rfl _ _; rfl
  wide := by rintro _ _ _ _ _ rfl _; rfl
theorem longs_row {ok : Nat → Prop} {w : World} {v : Value} {l : List Int} (h : HRow kLong ok w v l) : HInts ok w v l := h
set_option maxHeartbeats 8000000 in
theorem clone53_any {ok : Nat → Prop} {w : World} {v : Value} {l : List Int} (hl : HRow kInt ok w v l) (hlen : l.length ≤ 1000000) :
    Calls Tryd.prog 25 #[v] w fun e w' => ∃ v', e = .returned v' ∧ OwnL kInt w.heap.size w' v' l ∧ Below w.heap.size w w' := by
  obtain ⟨a, c, rfl, hc1, hc2⟩ := hl.form
  cases a with
  | none =>
    have h0 := row_nil hl
    subst h0
    clear hl
    have heq : ∀ W, (binOp BinOp.eql 22 (.slice none 0 c) (.slice none 0 0)).run Tryd.prog W = .ok (.bool true) W := fun W => by kernel_rfl
    go_enter Tryd.func25, Tryd.ntmps25
    go_wp2
    go_ret
    exact ⟨_, rfl, OwnL.nil, Below.refl _ _⟩
  | some ad =>
    have bA : Below w.heap.size w (w.alloc (.cells #[] 3 (0, 0))) := (Below.refl _ _).alloc (Nat.le_refl _) _
    have hl2 : HRow kInt (fun i => i < w.heap.size) (w.alloc (.cells #[] 3 (0, 0))) (.slice (some ad) l.length c) l := (hl.wide (ok' := fun i => i < w.heap.size) fun i _ h => h).keep bA.size (fun i _ h => bA.block i h)
    obtain ⟨v', w', hrun, hX, hg, hmv⟩ := run_joinO kInt 22 22 Tryd.underlying22 (OwnX.emptyRow (T := kInt) (w := w)) hl2 (fun k hk => by injection hk with hk; subst hk; exact Nat.lt_irrefl _) (by show (0 + l.length) * 8 ≤ 140737488355328; omega) (by simp; unfold maxLen; omega)
    have hB := (grown_asideO2 hg)
    have HX := hide hX
    have HMV := hide hmv
    have HG := hide hg
    have hrun2 : (Builtin.append_ #[22, 22] 22 #[.slice (some ⟨w.heap.size, 0, none⟩) 0 0, .slice (some ad) l.length c]).run Tryd.prog (w.alloc (.cells #[] 3 (0, 0))) = .ok v' w' := hrun
    clear hl hl2 hX hmv hg hrun
    have heq : ∀ W, (binOp BinOp.eql 22 (.slice (some ad) l.length c) (.slice none 0 0)).run Tryd.prog W = .ok (.bool false) W := fun W => by kernel_rfl
    go_enter Tryd.func25, Tryd.ntmps25
    go_wp2_with (at_builtin; refine wpList_joinO rfl _ _ 22 rfl _ _ _ (by rfl) (by rfl) hrun2 ?_)
    go_ret
    refine ⟨v', rfl, ownL_plain HX.out (fun k hk => ?_) (fun _ _ _ _ _ h => h), ?_⟩
    · rcases HMV.out with h | ⟨q, hq, hq2⟩
      · rw [h] at hk
        injection hk with hk
        have hk2 : w.heap.size = k := hk
        omega
      · rw [hq] at hk
        injection hk with hk
        subst hk
        have : (w.alloc (.cells #[] 3 (0, 0))).heap.size = w.heap.size + 1 := by simp
        have h3 : (w.alloc (.cells #[] 3 (0, 0))).heap.size ≤ q := hq2
        omega
    · exact hB
end Go.Proofs.YtbiomnnlpafciaaDoor
namespace Go.Proofs.YtbiomnnlpafciaaDoor
open Go.RowKit Go.IntWalk
set_option linter.unusedVariables false
set_option linter.unusedSimpArgs false
theorem heap_set_other (w : World) (p : Addr) (u : Value) {i : Nat} (h : p.block ≠ i) : (w.setCell p u).heap[i]? = w.heap[i]? := by
  cases e : w.heap[i]? with
  | none => 
    have hs : (w.setCell p u).heap.size = w.heap.size := by simp [World.setCell]
    rw [Array.getElem?_eq_none_iff] at e ⊢
    omega
  | some o => exact keep_set e h u
end Go.Proofs.YtbiomnnlpafciaaDoor
namespace Go.Proofs.YtbiomnnlpafciaaDoor
open Go.RowKit Go.IntWalk
set_option linter.unusedVariables false
set_option linter.unusedSimpArgs false
theorem f27_any (c a : Int) (w : World) : Calls Tryd.prog 28 #[.int .i64 c, .int .i64 a] w fun e w' => e = .returned (.agg #[.int .i64 c, .int .i64 a]) ∧ Below w.heap.size w w' := by
  have b1 : Below w.heap.size w (w.alloc (.cells #[.int .i64 0, .int .i64 0] 33 (0, 0))) := (Below.refl _ _).alloc (Nat.le_refl _) _
  have kF := heap_new w (.cells #[.int .i64 0, .int .i64 0] 33 (0, 0))
  go_enter Tryd.func28, Tryd.ntmps28
  go_upto_region 1 with fail
  generalize w.alloc (.cells #[.int .i64 0, .int .i64 0] 33 (0, 0)) = w1 at b1 kF ⊢
  have s0 := cell_of kF 0
  have s1 := cell_of kF 1
  have f0 := free_of kF 0
  have f1 := free_of kF 1
  simp at s0 s1
  have KE := set_in (set_in kF 0 (.int .i64 c)) 1 (.int .i64 a)
  have BE := (b1.setCell (p := ⟨w.heap.size, 0, none⟩) (Nat.le_refl _) (.int .i64 c)).setCell (p := ⟨w.heap.size, 1, none⟩) (Nat.le_refl _) (.int .i64 a)
  have t0 := cell_of KE 0
  have t1 := cell_of KE 1
  simp at t0 t1
  clear KE
  go_wp2
  exact bodyPost_ret (v := .agg #[.int .i64 c, .int .i64 a]) (by simp [results, Tryd.results28, go_sem, t0, t1]) rfl ⟨rfl, BE⟩
namespace Sk
end Sk
end Go.Proofs.YtbiomnnlpafciaaDoor
namespace Go.Proofs.YtbiomnnlpafciaaDoor
open Go.RowKit Go.IntWalk
set_option linter.unusedVariables false
set_option linter.unusedSimpArgs false
set_option maxHeartbeats 16000000 in
theorem refOp_any (k : Int) (w : World) :
    Calls Tryd.prog 59 #[.int .i64 k] w fun r w' => r = .returned (.tuple #[.int .u8 (Kd.opT k).1, .int .u8 (Kd.opT k).2.1, .int .i64 (Kd.opT k).2.2]) ∧ Below w.heap.size w w' := by
  by_cases h1 : k < 1
  · have e : Kd.opT k = (0, 0, 0) := by
      unfold Kd.opT
      by_cases h0 : k < 0
      · rw [if_pos (.inl h0)]
      · have : k = 0 := by omega
        subst this
        rfl
    rw [e]
    go_enter Tryd.func59, Tryd.ntmps59
    go_wp2
    exact bodyPost_ret (v := .tuple #[.int .u8 0, .int .u8 0, .int .i64 0]) (by simp [results, Tryd.results59, go_sem]) rfl ⟨rfl, Below.refl _ _⟩
  · by_cases h2 : 14 < k
    · have e : Kd.opT k = (0, 0, 0) := by
        unfold Kd.opT
        rw [if_pos (.inr (by omega))]
      rw [e]
      go_enter Tryd.func59, Tryd.ntmps59
      go_wp2
      exact bodyPost_ret (v := .tuple #[.int .u8 0, .int .u8 0, .int .i64 0]) (by simp [results, Tryd.results59, go_sem]) rfl ⟨rfl, Below.refl _ _⟩
    · have hk : k = 1 ∨ k = 2 ∨ k = 3 ∨ k = 4 ∨ k = 5 ∨ k = 6 ∨ k = 7 ∨ k = 8 ∨ k = 9 ∨ k = 10 ∨ k = 11 ∨ k = 12 ∨ k = 13 ∨ k = 14 := by omega
      clear h1 h2
      rcases hk with rfl | rfl | rfl | rfl | rfl | rfl | rfl | rfl | rfl | rfl | rfl | rfl | rfl | rfl
      · have e : Kd.opT 1 = (105, 105, 2) := by decide
        rw [e]
        clear e
        go_enter Tryd.func59, Tryd.ntmps59
        go_upto_region 8 with fail
        go_quiet (fail)
        go_wp2
        exact bodyPost_ret (v := .tuple #[.int .u8 105, .int .u8 105, .int .i64 2]) (by simp [results, Tryd.results59, go_sem]; exact ⟨rfl, rfl⟩) rfl ⟨rfl, drewN_below (Below.refl _ _) _⟩
      · have e : Kd.opT 2 = (105, 105, 2) := by decide
        rw [e]
        clear e
        go_enter Tryd.func59, Tryd.ntmps59
        go_upto_region 8 with fail
        go_quiet (fail)
        go_wp2
        exact bodyPost_ret (v := .tuple #[.int .u8 105, .int .u8 105, .int .i64 2]) (by simp [results, Tryd.results59, go_sem]; exact ⟨rfl, rfl⟩) rfl ⟨rfl, drewN_below (Below.refl _ _) _⟩
      · have e : Kd.opT 3 = (105, 105, 2) := by decide
        rw [e]
        clear e
        go_enter Tryd.func59, Tryd.ntmps59
        go_upto_region 8 with fail
        go_quiet (fail)
        go_wp2
        exact bodyPost_ret (v := .tuple #[.int .u8 105, .int .u8 105, .int .i64 2]) (by simp [results, Tryd.results59, go_sem]; exact ⟨rfl, rfl⟩) rfl ⟨rfl, drewN_below (Below.refl _ _) _⟩
      · have e : Kd.opT 4 = (105, 105, 2) := by decide
        rw [e]
        clear e
        go_enter Tryd.func59, Tryd.ntmps59
        go_upto_region 8 with fail
        go_quiet (fail)
        go_wp2
        exact bodyPost_ret (v := .tuple #[.int .u8 105, .int .u8 105, .int .i64 2]) (by simp [results, Tryd.results59, go_sem]; exact ⟨rfl, rfl⟩) rfl ⟨rfl, drewN_below (Below.refl _ _) _⟩
      · have e : Kd.opT 5 = (105, 105, 2) := by decide
        rw [e]
        clear e
        go_enter Tryd.func59, Tryd.ntmps59
        go_upto_region 8 with fail
        go_quiet (fail)
        go_wp2
        exact bodyPost_ret (v := .tuple #[.int .u8 105, .int .u8 105, .int .i64 2]) (by simp [results, Tryd.results59, go_sem]; exact ⟨rfl, rfl⟩) rfl ⟨rfl, drewN_below (Below.refl _ _) _⟩
      · have e : Kd.opT 6 = (105, 105, 2) := by decide
        rw [e]
        clear e
        go_enter Tryd.func59, Tryd.ntmps59
        go_upto_region 8 with fail
        go_quiet (fail)
        go_wp2
        exact bodyPost_ret (v := .tuple #[.int .u8 105, .int .u8 105, .int .i64 2]) (by simp [results, Tryd.results59, go_sem]; exact ⟨rfl, rfl⟩) rfl ⟨rfl, drewN_below (Below.refl _ _) _⟩
      · have e : Kd.opT 7 = (105, 105, 2) := by decide
        rw [e]
        clear e
        go_enter Tryd.func59, Tryd.ntmps59
        go_upto_region 8 with fail
        go_quiet (fail)
        go_wp2
        exact bodyPost_ret (v := .tuple #[.int .u8 105, .int .u8 105, .int .i64 2]) (by simp [results, Tryd.results59, go_sem]; exact ⟨rfl, rfl⟩) rfl ⟨rfl, drewN_below (Below.refl _ _) _⟩
      · have e : Kd.opT 8 = (105, 98, 2) := by decide
        rw [e]
        clear e
        go_enter Tryd.func59, Tryd.ntmps59
        go_upto_region 8 with fail
        go_quiet (fail)
        go_wp2
        exact bodyPost_ret (v := .tuple #[.int .u8 105, .int .u8 98, .int .i64 2]) (by simp [results, Tryd.results59, go_sem]; exact ⟨rfl, rfl⟩) rfl ⟨rfl, drewN_below (Below.refl _ _) _⟩
      · have e : Kd.opT 9 = (105, 98, 2) := by decide
        rw [e]
        clear e
        go_enter Tryd.func59, Tryd.ntmps59
        go_upto_region 8 with fail
        go_quiet (fail)
        go_wp2
        exact bodyPost_ret (v := .tuple #[.int .u8 105, .int .u8 98, .int .i64 2]) (by simp [results, Tryd.results59, go_sem]; exact ⟨rfl, rfl⟩) rfl ⟨rfl, drewN_below (Below.refl _ _) _⟩
      · have e : Kd.opT 10 = (98, 98, 2) := by decide
        rw [e]
        clear e
        go_enter Tryd.func59, Tryd.ntmps59
        go_upto_region 8 with fail
        go_quiet (fail)
        go_wp2
        exact bodyPost_ret (v := .tuple #[.int .u8 98, .int .u8 98, .int .i64 2]) (by simp [results, Tryd.results59, go_sem]; exact ⟨rfl, rfl⟩) rfl ⟨rfl, drewN_below (Below.refl _ _) _⟩
      · have e : Kd.opT 11 = (98, 98, 2) := by decide
        rw [e]
        clear e
        go_enter Tryd.func59, Tryd.ntmps59
        go_upto_region 8 with fail
        go_quiet (fail)
        go_wp2
        exact bodyPost_ret (v := .tuple #[.int .u8 98, .int .u8 98, .int .i64 2]) (by simp [results, Tryd.results59, go_sem]; exact ⟨rfl, rfl⟩) rfl ⟨rfl, drewN_below (Below.refl _ _) _⟩
      · have e : Kd.opT 12 = (98, 98, 2) := by decide
        rw [e]
        clear e
        go_enter Tryd.func59, Tryd.ntmps59
        go_upto_region 8 with fail
        go_quiet (fail)
        go_wp2
        exact bodyPost_ret (v := .tuple #[.int .u8 98, .int .u8 98, .int .i64 2]) (by simp [results, Tryd.results59, go_sem]; exact ⟨rfl, rfl⟩) rfl ⟨rfl, drewN_below (Below.refl _ _) _⟩
      · have e : Kd.opT 13 = (105, 105, 1) := by decide
        rw [e]
        clear e
        go_enter Tryd.func59, Tryd.ntmps59
        go_upto_region 8 with fail
        go_quiet (fail)
        go_wp2
        exact bodyPost_ret (v := .tuple #[.int .u8 105, .int .u8 105, .int .i64 1]) (by simp [results, Tryd.results59, go_sem]; exact ⟨rfl, rfl⟩) rfl ⟨rfl, drewN_below (Below.refl _ _) _⟩
      · have e : Kd.opT 14 = (98, 98, 1) := by decide
        rw [e]
        clear e
        go_enter Tryd.func59, Tryd.ntmps59
        go_upto_region 8 with fail
        go_quiet (fail)
        go_wp2
        exact bodyPost_ret (v := .tuple #[.int .u8 98, .int .u8 98, .int .i64 1]) (by simp [results, Tryd.results59, go_sem]; exact ⟨rfl, rfl⟩) rfl ⟨rfl, drewN_below (Below.refl _ _) _⟩
end Go.Proofs.YtbiomnnlpafciaaDoor
