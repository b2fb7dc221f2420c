import Derived.Test.YtbiomnnlpafciaaDoorS06
import Derived.Deep.Cut
import Derived.Deep.LoopGhost
import Derived.Ground.NamesProg
import Derived.IntWalk
import Derived.Laws.Cover1
import Derived.Laws.Externs
import Derived.Lib.Hide
import Derived.Lib.MakeNoZero
import Derived.Shelf.Lay
import Derived.WalkKit
import Derived.WalkSpells
import Derived.Laws.EntriesVeiled
set_option linter.unusedVariables false
set_option linter.unusedSimpArgs false
set_option maxHeartbeats 64000000
set_option maxRecDepth 100000
namespace Go.Proofs.YtbiomnnlpafciaaDoor
open Go.RowKit Go.IntWalk
set_option linter.unusedVariables false
set_option linter.unusedSimpArgs false
theorem flat_appK (C D : Nat → List Value) (n : Nat) : ∀ m, flat (fun q => if q < n then C q else D (q - n)) (n + m) = flat C n ++ flat D m
  | 0 => by
    rw [Nat.add_zero, flat_congr (D := C) n (fun q hq => by rw [if_pos hq])]
    simp [flat]
  | m + 1 => by
    rw [← Nat.add_assoc, flat, flat_appK C D n m, flat, if_neg (by omega), List.append_assoc]
    congr 3
    omega
/-- a whole row behind a row of the call's own -/
theorem run_joinO {α : Type} (T : Kind α) {w : World} (t ty : TypeId) (ht : Tryd.prog.underlying t = some (.slice T.ty)) {ok okr : Nat → Prop} {v u : Value} {l r : List α} (hown : OwnX T ok w v l) (hr : HRow T okr w u r)
    (hap : ∀ k, v.ownBlock = some k → ¬ okr k) (hM : (l.length + r.length) * T.bytes ≤ 140737488355328) (hm : l.length + r.length ≤ maxLen) :
    ∃ v' w', (Builtin.append_ #[t, t] ty #[v, u]).run Tryd.prog w = .ok v' w' ∧ OwnX T (fun k => ok k ∨ okr k ∨ w.heap.size ≤ k) w' v' (l ++ r) ∧ w.grownBy w' v.ownBlock ∧ (v'.ownBlock = v.ownBlock ∨ ∃ k, v'.ownBlock = some k ∧ w.heap.size ≤ k) := by
  obtain ⟨i0, hi, hz0, hz1, hz2⟩ := info_parts T.info
  have hown0 := hown
  obtain ⟨D, hrow, hok, hD⟩ := hown
  obtain ⟨C, hS, hC⟩ := hr
  have hS0 := hS
  obtain ⟨ao, cap, rfl, h2, h3, h4⟩ := hS
  have hCl : ∀ i, i < r.length → (C i).length = T.k := fun i hi => T.len (hC i hi)
  have hDl : ∀ i, i < l.length → (D i).length = T.k := fun i hi => T.len (hD i hi)
  cases ao with
  | none =>
    have hr0 : r = [] := by
      cases r with
      | nil => rfl
      | cons x r =>
        obtain ⟨b, o, e, _⟩ := h4 (by simp)
        cases e
    subst hr0
    have hrun : (Builtin.append_ #[t, t] ty #[v, .slice none 0 cap]).run Tryd.prog w = .ok v w := by
      rcases hrow.2 with ⟨rfl, h0⟩ | ⟨g, c, cur, rfl, _, _, hnc, _⟩
      · simp [Builtin.append_, run_underlying ht, sizeOf, typeInfo, hi, Builtin.lenOf, Builtin.firstCells]
      · simp [Builtin.append_, run_underlying ht, sizeOf, typeInfo, hi, Builtin.lenOf, Builtin.firstCells, hnc, storeCells]
    refine ⟨v, w, hrun, ?_, ⟨rfl, rfl, rfl, Nat.le_refl _, fun _ _ _ => rfl⟩, .inl rfl⟩
    rw [List.append_nil]
    exact hown0.wide (fun i hi _ => .inl hi)
  | some a =>
    have hone : ∀ x ∈ flat C r.length, x.oneCell' = true := fun x hx => by
      obtain ⟨i, hi, hx⟩ := flat_mem _ _ hx
      exact T.one (hC i hi) x hx
    have hnews : ∀ j u, (flat C r.length)[j]? = some u → w.cell? (a.add j) = some u := by
      by_cases h0 : 0 < r.length
      · obtain ⟨b, o, e, hb, hbl, hcells⟩ := h4 h0
        injection e with e
        subst e
        exact Sl.news T.pos hS0
      · intro j u hj
        have e : r.length = 0 := by omega
        rw [e] at hj
        simp [flat] at hj
    obtain ⟨v', w', hrun, hrow', hgrow, hmv⟩ := run_push w 0 t ty T.ty i0 T.zero T.k T.bytes ht hi hz0 hz1 hz2 T.zs T.pos v l.length _ hrow a r.length cap (flat C r.length) (flat_len _ hCl) hnews hone hm hM (Nat.zero_le _)
    have hnv : ∀ i, i < w.heap.size → some i ≠ v.ownBlock → some i ≠ v'.ownBlock := by
      intro i hi hne
      rcases hmv with h | ⟨k, hk, hl⟩
      · rw [h]; exact hne
      · rw [hk]
        intro e
        injection e with e
        omega
    refine ⟨v', w', hrun, ⟨fun q => if q < l.length then D q else C (q - l.length), ?_, fun k hk => ?_, fun j hj => ?_⟩, hgrow, hmv⟩
    · rw [List.length_append, flat_appK]
      exact hrow'
    · rcases hmv with h | ⟨k', hk', hl⟩
      · exact .inl (hok k (h ▸ hk))
      · rw [hk] at hk'
        injection hk' with e
        subst e
        exact .inr (.inr hl)
    · by_cases e : j < l.length
      · simp only [if_pos e, List.getElem_append_left e]
        have g0 := T.wide (ok' := fun k => (ok k ∧ some k ≠ v.ownBlock) ∧ k < w.heap.size) (hD j e) (fun k hk hl => ⟨hk, hl⟩)
        have g1 := T.keep g0 hgrow.size (fun k hk hl => hgrow.block k hl hk.1.2)
        exact T.wide g1 (fun k hk _ => ⟨.inl hk.1.1, hnv k hk.2 hk.1.2⟩)
      · have hj2 : j - l.length < r.length := by simp at hj; omega
        simp only [if_neg e, List.getElem_append_right (Nat.le_of_not_lt e)]
        have g0 := T.wide (ok' := fun k => okr k ∧ k < w.heap.size) (hC _ hj2) (fun k hk hl => ⟨hk, hl⟩)
        have g1 := T.keep g0 hgrow.size (fun k hk hl => hgrow.block k hl (fun e => hap k e.symm hk.1))
        exact T.wide g1 (fun k hk _ => ⟨.inr (.inl hk.1), hnv k hk.2 (fun e => hap k e.symm hk.1)⟩)
/-- append, its run being known -/
theorem wpList_joinO {w w' : World} {ops : Array Oper} {rest : List Oper} {o : Oper} {a : Act} {Q : Exit → Act → World → Prop} (hgd : o.guard = none) (s x : Operand) (t : TypeId) (ho : o.op = .call { callee := .builtin .append, args := #[s, x], argTypes := #[t, t] }) (v u v' : Value) (hs : a.eval s = v) (hx : a.eval x = u)
    (hr : (Builtin.append_ #[t, t] o.type #[v, u]).run Tryd.prog w = .ok v' w') (h : wpList Tryd.prog ops Q rest (a.put o.dst v') w') : wpList Tryd.prog ops Q (o :: rest) a w := by
  refine wpList_plain hgd fun _ hK => ?_
  unfold Oper.wp execOp
  simp only [ho, resolve, invoke, builtin, Sem.run_bind, Sem.run_pure, Result.andThen_ok, List.map_toArray, List.map_cons, List.map_nil, hs, hx, hr]
  exact hK _ _ h
theorem oper_joinO {w w' : World} {o : Oper} {a : Act} {K : Act → World → Prop} {Q : Exit → Act → World → Prop} (s x : Operand) (t : TypeId) (ho : o.op = .call { callee := .builtin .append, args := #[s, x], argTypes := #[t, t] }) (v u v' : Value) (hs : a.eval s = v) (hx : a.eval x = u)
    (hr : (Builtin.append_ #[t, t] o.type #[v, u]).run Tryd.prog w = .ok v' w') (h : K (a.put o.dst v') w') : Oper.wp Tryd.prog o a w K Q := by
  unfold Oper.wp execOp
  simp only [ho, resolve, invoke, builtin, Sem.run_bind, Sem.run_pure, Result.andThen_ok, List.map_toArray, List.map_cons, List.map_nil, hs, hx, hr]
  exact h
end Go.Proofs.YtbiomnnlpafciaaDoor
namespace Go.Proofs.YtbiomnnlpafciaaDoor
open Go.RowKit Go.IntWalk
set_option linter.unusedVariables false
set_option linter.unusedSimpArgs false
theorem ownL_plain {α : Type} {T : Kind α} {ok : Nat → Prop} {B : Nat} {w : World} {v : Value} {l : List α} (h : OwnX T ok w v l) (hk : ∀ k, v.ownBlock = some k → B ≤ k) (hE : ∀ ok ok' w cs a, T.E ok w cs a → T.E ok' w cs a) : OwnL T B w v l := by
  obtain ⟨D, ⟨h1, h2⟩, h3, h4⟩ := h
  refine ⟨D, ⟨h1, ?_⟩, fun j hj => hE _ _ _ _ _ (h4 j hj)⟩
  rcases h2 with h | ⟨g, cap, cur, e1, e2, e3⟩
  · exact .inl h
  · exact .inr ⟨g, cap, cur, e1, hk g (by rw [e1]; rfl), e3⟩
theorem OwnX.emptyRow {α : Type} {T : Kind α} {w : World} : OwnX T (fun i => i = w.heap.size) (w.alloc (.cells #[] T.ty (0, 0))) (.slice (some ⟨w.heap.size, 0, none⟩) 0 0) [] :=
  ⟨fun _ => [], ⟨by simp [flat], .inr ⟨w.heap.size, 0, #[], rfl, Nat.zero_le _, heap_new w _, Nat.le_refl _, Nat.zero_le _, by simp, by simp [flat]⟩⟩, fun k hk => by injection hk with hk; exact hk.symm, fun j hj => absurd hj (Nat.not_lt_zero _)⟩
theorem grown_asideO2 {w W' : World} {t : TypeId} (hg : (w.alloc (.cells #[] t (0, 0))).grownBy W' (Value.slice (some ⟨w.heap.size, 0, none⟩) 0 0).ownBlock) : Below w.heap.size w W' :=
  ⟨hg.os, hg.tape, hg.output, Nat.le_trans (by simp) hg.size, fun k hk => by
    rw [hg.block k (by simp; omega) (fun e => by injection e with e; have e2 : k = w.heap.size := e; omega)]
    exact Below.heap_alloc _ _ _ hk⟩
theorem row_nil {α : Type} {T : Kind α} {ok : Nat → Prop} {w : World} {n c : Nat} {l : List α} (h : HRow T ok w (.slice none n c) l) : l = [] := by
  obtain ⟨C, ⟨ao, cap, hv, h1, h2, h3⟩, hC⟩ := h
  injection hv with e1 e2 e3
  subst e1
  cases l with
  | nil => rfl
  | cons x r =>
    obtain ⟨b, o, e, _⟩ := h3 (by simp)
    cases e
theorem Tryd.infoPu : (Tryd.prog.info? 59).map (fun i => (i.zero, i.size, i.bytes)) = some (some (.agg #[.int .i64 0, .int .i64 0, .int .i64 0, .int .i64 0]), 4, 32) := by kernel_rfl
def kPu : Kind Pu where
  ty := 59
  k := 4
  bytes := 32
  zero := .agg #[.int .i64 0, .int .i64 0, .int .i64 0, .int .i64 0]
  E := fun _ _ cs p => cs = p.cs
  pos := by decide
  zs := rfl
  info := Tryd.infoPu
  len := by rintro _ _ _ _ rfl; rfl
  one := by rintro _ _ _ _ rfl; intro u hu; simp [Pu.cs] at hu; rcases hu with rfl | rfl | rfl | rfl <;> rfl
  keep := by rintro _ _ _ _ _ rfl _ _; rfl
  wide := by rintro _ _ _ _ _ rfl _; rfl
theorem pus_row {ok : Nat → Prop} {w : World} {v : Value} {l : List Pu} (h : HRow kPu ok w v l) : HPu ok w v l := h
theorem Tryd.infoLg : (Tryd.prog.info? 2).map (fun i => (i.zero, i.size, i.bytes)) = some (some (.int .i64 0), 1, 8) := by kernel_rfl
/-- long numbers -/
def kLong : Kind Int where
  ty := 2
  k := 1
  bytes := 8
  zero := .int .i64 0
  E := fun _ _ cs x => cs = [.int .i64 x]
  pos := by decide
  zs := rfl
  info := Tryd.infoLg
  len := by rintro _ _ _ _ rfl; rfl
  one := by rintro _ _ _ _ rfl; simp; rfl
  keep := by rintro _ _ _ _ _ rfl _ _; rfl
  wide := by rintro _ _ _ _ _ rfl _; rfl
theorem longs_row {ok : Nat → Prop} {w : World} {v : Value} {l : List Int} (h : HRow kLong ok w v l) : HInts ok w v l := h
set_option maxHeartbeats 8000000 in
theorem clone53_any {ok : Nat → Prop} {w : World} {v : Value} {l : List Int} (hl : HRow kInt ok w v l) (hlen : l.length ≤ 1000000) :
    Calls Tryd.prog 25 #[v] w fun e w' => ∃ v', e = .returned v' ∧ OwnL kInt w.heap.size w' v' l ∧ Below w.heap.size w w' := by
  obtain ⟨a, c, rfl, hc1, hc2⟩ := hl.form
  cases a with
  | none =>
    have h0 := row_nil hl
    subst h0
    clear hl
    have heq : ∀ W, (binOp BinOp.eql 22 (.slice none 0 c) (.slice none 0 0)).run Tryd.prog W = .ok (.bool true) W := fun W => by kernel_rfl
    go_enter Tryd.func25, Tryd.ntmps25
    go_wp2
    go_ret
    exact ⟨_, rfl, OwnL.nil, Below.refl _ _⟩
  | some ad =>
    have bA : Below w.heap.size w (w.alloc (.cells #[] 3 (0, 0))) := (Below.refl _ _).alloc (Nat.le_refl _) _
    have hl2 : HRow kInt (fun i => i < w.heap.size) (w.alloc (.cells #[] 3 (0, 0))) (.slice (some ad) l.length c) l := (hl.wide (ok' := fun i => i < w.heap.size) fun i _ h => h).keep bA.size (fun i _ h => bA.block i h)
    obtain ⟨v', w', hrun, hX, hg, hmv⟩ := run_joinO kInt 22 22 Tryd.underlying22 (OwnX.emptyRow (T := kInt) (w := w)) hl2 (fun k hk => by injection hk with hk; subst hk; exact Nat.lt_irrefl _) (by show (0 + l.length) * 8 ≤ 140737488355328; omega) (by simp; unfold maxLen; omega)
    have hB := (grown_asideO2 hg)
    have HX := hide hX
    have HMV := hide hmv
    have HG := hide hg
    have hrun2 : (Builtin.append_ #[22, 22] 22 #[.slice (some ⟨w.heap.size, 0, none⟩) 0 0, .slice (some ad) l.length c]).run Tryd.prog (w.alloc (.cells #[] 3 (0, 0))) = .ok v' w' := hrun
    clear hl hl2 hX hmv hg hrun
    have heq : ∀ W, (binOp BinOp.eql 22 (.slice (some ad) l.length c) (.slice none 0 0)).run Tryd.prog W = .ok (.bool false) W := fun W => by kernel_rfl
    go_enter Tryd.func25, Tryd.ntmps25
    go_wp2_with (at_builtin; refine wpList_joinO rfl _ _ 22 rfl _ _ _ (by rfl) (by rfl) hrun2 ?_)
    go_ret
    refine ⟨v', rfl, ownL_plain HX.out (fun k hk => ?_) (fun _ _ _ _ _ h => h), ?_⟩
    · rcases HMV.out with h | ⟨q, hq, hq2⟩
      · rw [h] at hk
        injection hk with hk
        have hk2 : w.heap.size = k := hk
        omega
      · rw [hq] at hk
        injection hk with hk
        subst hk
        have : (w.alloc (.cells #[] 3 (0, 0))).heap.size = w.heap.size + 1 := by simp
        have h3 : (w.alloc (.cells #[] 3 (0, 0))).heap.size ≤ q := hq2
        omega
    · exact hB
end Go.Proofs.YtbiomnnlpafciaaDoor
namespace Go.Proofs.YtbiomnnlpafciaaDoor
open Go.RowKit Go.IntWalk
set_option linter.unusedVariables false
set_option linter.unusedSimpArgs false
theorem heap_set_other (w : World) (p : Addr) (u : Value) {i : Nat} (h : p.block ≠ i) : (w.setCell p u).heap[i]? = w.heap[i]? := by
  cases e : w.heap[i]? with
  | none => 
    have hs : (w.setCell p u).heap.size = w.heap.size := by simp [World.setCell]
    rw [Array.getElem?_eq_none_iff] at e ⊢
    omega
  | some o => exact keep_set e h u
end Go.Proofs.YtbiomnnlpafciaaDoor
namespace Go.Proofs.YtbiomnnlpafciaaDoor
open Go.RowKit Go.IntWalk
set_option linter.unusedVariables false
set_option linter.unusedSimpArgs false
theorem f27_any (c a : Int) (w : World) : Calls Tryd.prog 28 #[.int .i64 c, .int .i64 a] w fun e w' => e = .returned (.agg #[.int .i64 c, .int .i64 a]) ∧ Below w.heap.size w w' := by
  have b1 : Below w.heap.size w (w.alloc (.cells #[.int .i64 0, .int .i64 0] 33 (0, 0))) := (Below.refl _ _).alloc (Nat.le_refl _) _
  have kF := heap_new w (.cells #[.int .i64 0, .int .i64 0] 33 (0, 0))
  go_enter Tryd.func28, Tryd.ntmps28
  go_upto_region 1 with fail
  generalize w.alloc (.cells #[.int .i64 0, .int .i64 0] 33 (0, 0)) = w1 at b1 kF ⊢
  have s0 := cell_of kF 0
  have s1 := cell_of kF 1
  have f0 := free_of kF 0
  have f1 := free_of kF 1
  simp at s0 s1
  have KE := set_in (set_in kF 0 (.int .i64 c)) 1 (.int .i64 a)
  have BE := (b1.setCell (p := ⟨w.heap.size, 0, none⟩) (Nat.le_refl _) (.int .i64 c)).setCell (p := ⟨w.heap.size, 1, none⟩) (Nat.le_refl _) (.int .i64 a)
  have t0 := cell_of KE 0
  have t1 := cell_of KE 1
  simp at t0 t1
  clear KE
  go_wp2
  exact bodyPost_ret (v := .agg #[.int .i64 c, .int .i64 a]) (by simp [results, Tryd.results28, go_sem, t0, t1]) rfl ⟨rfl, BE⟩
namespace Sk
end Sk
end Go.Proofs.YtbiomnnlpafciaaDoor
