/-
  DERIVED. THE WALKS of the reader's terms and sizes, whatever comes.
-/
import Derived.Test.YtmgaeapckfdbpabDoorM07
import Derived.Test.YtmgaeapckfdbpabDoorM04
import Derived.Deep.QuietTactic
import Derived.BigQuiet
import Derived.Deep.LoopGhost
import Derived.Deep.RegionWith
namespace Go.Proofs.YtmgaeapckfdbpabDoor
open Go.RowKit Go.IntWalk
set_option linter.unusedVariables false
set_option linter.unusedSimpArgs false
set_option maxRecDepth 100000

def tmV : Nat → World → Value → Tm → Prop := fun _ _ x t => x = .agg #[.int .i64 t.1, .string t.2]

/-- what stands behind a call in a reader's function: the blocks of its own are as they were -/
theorem Post.fail {α : Type} {b g cap : Nat} {I : Inp} {op : Nat} {V : Nat → World → Value → α → Prop} {nx : Nat} {w : World} {res : Res α} {w' : World} {c a : Nat} (h : res = .err c a) (hA : Aside [b] w.heap.size w w') : Post b g cap I op V nx w res (upE c a) w' := by
  subst h
  exact ⟨hA, rfl⟩
theorem Post.good {α : Type} {b g cap : Nat} {I : Inp} {op : Nat} {V : Nat → World → Value → α → Prop} {nx : Nat} {w : World} {res : Res α} {w' : World} {v : α} {n1 : Nat} {x : Value} (h : res = .ok v n1) (hA : Aside [b] w.heap.size w w') (hn : nx ≤ n1) (hR : Rd w' b g cap I.L I.len n1 op) (hV : V w.heap.size w' x v) : Post b g cap I op V nx w res (.returned x) w' := by
  subst h
  exact ⟨hA, hn, hR, x, rfl, hV⟩
theorem Post.aside {α : Type} {b g cap : Nat} {I : Inp} {op : Nat} {V : Nat → World → Value → α → Prop} {nx : Nat} {w : World} {res : Res α} {r : Ending} {w' : World} (h : Post b g cap I op V nx w res r w') : Aside [b] w.heap.size w w' := h.1

set_option maxHeartbeats 4000000 in
theorem term_any {w : World} {b g cap : Nat} {I : Inp} {nx op : Nat} (h : Rd w b g cap I.L I.len nx op) (minus : Bool) :
    Calls Tryd.prog 51 #[.pointer (some ⟨b, 0, none⟩), .bool minus] w (Post b g cap I op tmV nx w (Ps.term I minus nx)) := by
  have hb := h.bb
  have hg := h.gb
  obtain ⟨W, hW⟩ : ∃ W, W = (w.alloc (.cells #[.int .i64 0, .string ⟨#[]⟩] 86 (0, 0))).alloc (.cells #[.int .i64 1, .string ⟨#[]⟩] 86 (0, 0)) := ⟨_, rfl⟩
  have zW : W.heap.size = w.heap.size + 1 + 1 := by rw [hW]; simp
  have bW : Below w.heap.size w W := by rw [hW]; exact ((Below.refl _ w).alloc (Nat.le_refl _) _).alloc (by simp) _
  have hA0 : W.heap[w.heap.size]? = some (.cells #[.int .i64 0, .string ⟨#[]⟩] 86 (0, 0)) := by rw [hW]; exact keep_alloc (heap_new w _) _
  have hT0 : W.heap[w.heap.size + 1]? = some (.cells #[.int .i64 1, .string ⟨#[]⟩] 86 (0, 0)) := by
    have := heap_new (w.alloc (.cells #[.int .i64 0, .string ⟨#[]⟩] 86 (0, 0))) (.cells #[.int .i64 1, .string ⟨#[]⟩] 86 (0, 0))
    have e : (w.alloc (.cells #[.int .i64 0, .string ⟨#[]⟩] 86 (0, 0))).heap.size = w.heap.size + 1 := by simp
    rw [e] at this
    rw [hW]
    exact this
  have hRW : Rd W b g cap I.L I.len nx op := h.below bW
  have hp := @peek_any _ _ _ _ _ _ _ _ hRW
  obtain ⟨t, ht⟩ : ∃ t, t = I.pk nx := ⟨_, rfl⟩
  have hpk : peekT I.L I.len nx = t := ht.symm
  rw [hpk] at hp
  unfold tokV at hp
  have HT := hide ht
  clear hpk ht
  by_cases hk : t.kind = 3
  · have hlt : nx < I.L.length := kind_lt (by rw [← HT.out, hk]; decide)
    rw [hk] at hp
    go_enter Tryd.func51, Tryd.ntmps51
    go_wp2_with fail
    rw [← hW]
    refine hp.mono ?_
    rintro e w1 ⟨rfl, b1⟩
    have z1 := b1.size
    go_wp2_with fail
    refine (step_any ((hRW.below b1).alloc _) hlt).mono ?_
    rintro e w2 ⟨rfl, h2, a2⟩
    have z2 : w1.heap.size + 1 ≤ w2.heap.size := by simpa using a2.size
    have hN2 := a2.keep (heap_new w1 _) (by simp) (by simp; omega)
    have hA2 := a2.keep (keep_alloc ((aside b1 (S := [])).keep hA0 (lt_of hA0) (by simp)) _) (by simp; omega) (by simp; omega)
    have hT2 := a2.keep (keep_alloc ((aside b1 (S := [])).keep hT0 (lt_of hT0) (by simp)) _) (by simp; omega) (by simp; omega)
    have S2 : Aside [b] w.heap.size w w2 := (aside ((bW.trans (b1.mono (by omega))).alloc (by omega) _)).trans a2 (by simp; omega)
    have n3 := cell_of hN2 3
    have t0 := cell_of hT2 0
    have f0 := free_of hT2 0
    simp at n3 t0
    go_wp2_with fail
    have hT := set_in hT2 0 (.int .i64 t.n)
    have hA := keep_set hA2 (p := ⟨w.heap.size + 1, 0, none⟩) (by simp) (.int .i64 t.n)
    have hR := h2.set (p := ⟨w.heap.size + 1, 0, none⟩) (by simp; omega) (by simp; omega) (.int .i64 t.n)
    have hS := S2.set (p := ⟨w.heap.size + 1, 0, none⟩) (by simp) (.int .i64 t.n)
    simp at hT
    have z3 : (w2.setCell ⟨w.heap.size + 1, 0, none⟩ (.int .i64 t.n)).heap.size = w2.heap.size := by simp [World.setCell]
    generalize w2.setCell ⟨w.heap.size + 1, 0, none⟩ (.int .i64 t.n) = w3 at hT hA hR hS z3 ⊢
    clear hN2 hA2 hT2 S2 h2 a2 n3 t0 f0 hA0 hT0
    refine (take_any hR ⟨#[42]⟩ (by decide)).mono ?_
    rintro e w4 ⟨rfl, h4, a4⟩
    have z4 := a4.size
    have hA4 := a4.keep hA (by omega) (by simp; omega)
    have hT4 := a4.keep hT (by omega) (by simp; omega)
    have hS4 := hS.trans a4 (by omega)
    clear hA hT hS hR
    have es : (⟨#[42]⟩ : ByteArray).data.toList = [42] := rfl
    rw [es] at h4
    simp only [es]
    clear es
    cases hq : Ps.sees I [42] (nx + 1) with
    | false =>
      rw [hq] at h4
      simp only [Bool.false_eq_true, if_false] at h4
      have hA := hA4
      have hT := hT4
      have hR := h4
      have hS := hS4
      clear hA4 hT4 h4 hS4
      cases minus
      · have t0 := cell_of hT 0
        have t1 := cell_of hT 1
        have c0 := cell_of hA 0
        have c1 := cell_of hA 1
        have fA := fun o => free_of hA o
        have fT := fun o => free_of hT o
        simp at t0 t1 c0 c1
        go_wp2
        refine bodyPost_ret (v := .agg #[.int .i64 (t.n), .string (⟨#[]⟩ : ByteArray)]) (by simp [results, Tryd.results51, go_sem, c0, c1]) rfl ?_
        exact Post.good (v := (t.n, (⟨#[]⟩ : ByteArray))) (by unfold Ps.term; rw [← HT.out, if_pos hk, hq]; simp [Ps.sg]) (((hS).set (by simp) _).set (by simp) _) (by omega) (((hR).set (by simp; omega) (by simp; omega) _).set (by simp; omega) (by simp; omega) _) rfl
      · have t0 := cell_of hT 0
        have t1 := cell_of hT 1
        have c0 := cell_of hA 0
        have c1 := cell_of hA 1
        have fA := fun o => free_of hA o
        have fT := fun o => free_of hT o
        simp at t0 t1 c0 c1
        go_wp2
        refine bodyPost_ret (v := .agg #[.int .i64 (wrap64 (-(t.n))), .string (⟨#[]⟩ : ByteArray)]) (by simp [results, Tryd.results51, go_sem, c0, c1]) rfl ?_
        exact Post.good (v := (wrap64 (-(t.n)), (⟨#[]⟩ : ByteArray))) (by unfold Ps.term; rw [← HT.out, if_pos hk, hq]; simp [Ps.sg]) ((((hS).set (by simp) _).set (by simp) _).set (by simp) _) (by omega) ((((hR).set (by simp; omega) (by simp; omega) _).set (by simp; omega) (by simp; omega) _).set (by simp; omega) (by simp; omega) _) rfl
    | true =>
      rw [hq] at h4
      simp only [if_true] at h4
      go_wp2_with fail
      refine (name_any h4).mono ?_
      rintro e w5 ⟨a5, hres⟩
      have hS := hS4.trans a5 (by omega)
      have z5 := a5.size
      have hA := a5.keep hA4 (by omega) (by simp; omega)
      have hT5 := a5.keep hT4 (by omega) (by simp; omega)
      clear hA4 hT4 hS4 h4
      cases hn : Ps.name I (nx + 1 + 1) with
      | err c a =>
        rw [hn] at hres
        obtain rfl : e = _ := hres
        exact ⟨rfl, Post.fail (by unfold Ps.term; rw [← HT.out, if_pos hk, hq]; simp [hn, Res.bind]) hS⟩
      | ok s n1 =>
        rw [hn] at hres
        obtain ⟨le5, hR5, _, rfl, rfl⟩ := hres
        have hT := hT5
        have hR := hR5
        clear hT5 hR5
        cases minus
        · have t0 := cell_of hT 0
          have t1 := cell_of hT 1
          have c0 := cell_of hA 0
          have c1 := cell_of hA 1
          have fA := fun o => free_of hA o
          have fT := fun o => free_of hT o
          simp at t0 t1 c0 c1
          go_wp2
          refine bodyPost_ret (v := .agg #[.int .i64 (t.n), .string s]) (by simp [results, Tryd.results51, go_sem, c0, c1]) rfl ?_
          exact Post.good (v := (t.n, s)) (by unfold Ps.term; rw [← HT.out, if_pos hk, hq]; simp [Ps.sg, hn, Res.bind]) ((((hS).set (by simp) _).set (by simp) _).set (by simp) _) (by omega) ((((hR).set (by simp; omega) (by simp; omega) _).set (by simp; omega) (by simp; omega) _).set (by simp; omega) (by simp; omega) _) rfl
        · have t0 := cell_of hT 0
          have t1 := cell_of hT 1
          have c0 := cell_of hA 0
          have c1 := cell_of hA 1
          have fA := fun o => free_of hA o
          have fT := fun o => free_of hT o
          simp at t0 t1 c0 c1
          go_wp2
          refine bodyPost_ret (v := .agg #[.int .i64 (wrap64 (-(t.n))), .string s]) (by simp [results, Tryd.results51, go_sem, c0, c1]) rfl ?_
          exact Post.good (v := (wrap64 (-(t.n)), s)) (by unfold Ps.term; rw [← HT.out, if_pos hk, hq]; simp [Ps.sg, hn, Res.bind]) (((((hS).set (by simp) _).set (by simp) _).set (by simp) _).set (by simp) _) (by omega) (((((hR).set (by simp; omega) (by simp; omega) _).set (by simp; omega) (by simp; omega) _).set (by simp; omega) (by simp; omega) _).set (by simp; omega) (by simp; omega) _) rfl
  · have hkb : (t.kind == 3) = false := beq_eq_false_iff_ne.2 hk
    go_enter Tryd.func51, Tryd.ntmps51
    go_wp2_with fail
    rw [← hW]
    refine hp.mono ?_
    rintro e w1 ⟨rfl, b1⟩
    have z1 := b1.size
    go_wp2_with fail
    refine (name_any ((hRW.below b1).alloc _)).mono ?_
    rintro e w5 ⟨a5, hres⟩
    have z5 : w1.heap.size + 1 ≤ w5.heap.size := by simpa using a5.size
    have hA := a5.keep (keep_alloc ((aside b1 (S := [])).keep hA0 (lt_of hA0) (by simp)) _) (by simp; omega) (by simp; omega)
    have hT5 := a5.keep (keep_alloc ((aside b1 (S := [])).keep hT0 (lt_of hT0) (by simp)) _) (by simp; omega) (by simp; omega)
    have hS : Aside [b] w.heap.size w w5 := (aside ((bW.trans (b1.mono (by omega))).alloc (by omega) _)).trans a5 (by simp; omega)
    cases hn : Ps.name I nx with
    | err c a =>
      rw [hn] at hres
      obtain rfl : e = _ := hres
      exact ⟨rfl, Post.fail (by unfold Ps.term; rw [← HT.out, if_neg hk]; simp [hn, Res.bind]) hS⟩
    | ok s n1 =>
      rw [hn] at hres
      obtain ⟨le5, hR5, _, rfl, rfl⟩ := hres
      have hT := hT5
      have hR := hR5
      clear hT5 hR5
      cases minus
      · have t0 := cell_of hT 0
        have t1 := cell_of hT 1
        have c0 := cell_of hA 0
        have c1 := cell_of hA 1
        have fA := fun o => free_of hA o
        have fT := fun o => free_of hT o
        simp at t0 t1 c0 c1
        go_wp2
        refine bodyPost_ret (v := .agg #[.int .i64 (1), .string s]) (by simp [results, Tryd.results51, go_sem, c0, c1]) rfl ?_
        exact Post.good (v := (1, s)) (by unfold Ps.term; rw [← HT.out, if_neg hk]; simp [Ps.sg, hn, Res.bind]) ((((hS).set (by simp) _).set (by simp) _).set (by simp) _) (by omega) ((((hR).set (by simp; omega) (by simp; omega) _).set (by simp; omega) (by simp; omega) _).set (by simp; omega) (by simp; omega) _) rfl
      · have t0 := cell_of hT 0
        have t1 := cell_of hT 1
        have c0 := cell_of hA 0
        have c1 := cell_of hA 1
        have fA := fun o => free_of hA o
        have fT := fun o => free_of hT o
        simp at t0 t1 c0 c1
        go_wp2
        refine bodyPost_ret (v := .agg #[.int .i64 (-1), .string s]) (by simp [results, Tryd.results51, go_sem, c0, c1]) rfl ?_
        exact Post.good (v := (-1, s)) (by unfold Ps.term; rw [← HT.out, if_neg hk]; simp [Ps.sg, hn, Res.bind]; unfold wrap64; omega) (((((hS).set (by simp) _).set (by simp) _).set (by simp) _).set (by simp) _) (by omega) (((((hR).set (by simp; omega) (by simp; omega) _).set (by simp; omega) (by simp; omega) _).set (by simp; omega) (by simp; omega) _).set (by simp; omega) (by simp; omega) _) rfl

end Go.Proofs.YtmgaeapckfdbpabDoor


/-
  DERIVED. Lists compared, part by part; THE WALKS of the comparisons of names and of terms.
-/
namespace Go.Proofs.YtmgaeapckfdbpabDoor
open Go.RowKit Go.IntWalk
set_option linter.unusedVariables false
set_option linter.unusedSimpArgs false
set_option maxRecDepth 100000

/-- two lists, part by part -/
def eqL {α : Type} (f : α → α → Bool) : List α → List α → Bool
  | [], [] => true
  | a :: l, b :: r => f a b && eqL f l r
  | _, _ => false

theorem eqL_len {α : Type} {f : α → α → Bool} : ∀ {l r : List α}, l.length ≠ r.length → eqL f l r = false
  | [], [], h => by simp at h
  | [], _ :: _, _ => rfl
  | _ :: _, [], _ => rfl
  | a :: l, b :: r, h => by
    have : eqL f l r = false := eqL_len (by simpa using h)
    simp [eqL, this]
theorem eqL_all {α : Type} {f : α → α → Bool} : ∀ {l r : List α}, l.length = r.length → (∀ i (h : i < l.length) (h' : i < r.length), f l[i] r[i] = true) → eqL f l r = true
  | [], [], _, _ => rfl
  | [], _ :: _, h, _ => by simp at h
  | _ :: _, [], h, _ => by simp at h
  | a :: l, b :: r, h, hf => by
    have h1 := hf 0 (by simp) (by simp)
    have h2 : eqL f l r = true := eqL_all (by simpa using h) (fun i hi hi' => hf (i + 1) (by simpa using hi) (by simpa using hi'))
    simp at h1
    simp [eqL, h1, h2]
theorem eqL_bad {α : Type} {f : α → α → Bool} : ∀ {l r : List α} (i : Nat) (h : i < l.length) (h' : i < r.length), f l[i] r[i] = false → eqL f l r = false
  | [], _, i, h, _, _ => by simp at h
  | _ :: _, [], i, _, h', _ => by simp at h'
  | a :: l, b :: r, 0, _, _, hf => by simp at hf; simp [eqL, hf]
  | a :: l, b :: r, i + 1, h, h', hf => by
    have : eqL f l r = false := eqL_bad i (by simpa using h) (by simpa using h') (by simpa using hf)
    simp [eqL, this]
theorem eqL_refl {α : Type} {f : α → α → Bool} (l : List α) (h : ∀ a, a ∈ l → f a a = true) : eqL f l l = true := eqL_all rfl (fun i hi _ => h _ (List.getElem_mem hi))

def seq (a b : ByteArray) : Bool := a.toList == b.toList
def teq (a b : Tm) : Bool := a.1 == b.1 && seq a.2 b.2
theorem seq_refl (a : ByteArray) : seq a a = true := by simp [seq]
theorem teq_refl (a : Tm) : teq a a = true := by simp [teq, seq]

theorem HNames.at {ok : Nat → Prop} {w : World} {v : Value} {l : List ByteArray} (h : HNames ok w v l) :
    ∃ ao cap, v = .slice ao l.length cap ∧ l.length ≤ cap ∧ cap ≤ maxLen ∧ ∀ i (h : i < l.length), ∃ b o, ao = some ⟨b, o, none⟩ ∧ b < w.heap.size ∧ w.cell? ⟨b, o + i, none⟩ = some (.string l[i]) := by
  obtain ⟨C, ⟨ao, cap, hv, h1, h2, h3⟩, hC⟩ := h
  refine ⟨ao, cap, hv, h1, h2, fun i hi => ?_⟩
  obtain ⟨b, o, ha, hob, hb, hc⟩ := h3 (by omega)
  have := (hc i hi).2 0 (by decide)
  rw [hC i hi] at this
  exact ⟨b, o, ha, hb, by simpa using this⟩
theorem HTerms.at {ok : Nat → Prop} {w : World} {v : Value} {l : List Tm} (h : HTerms ok w v l) :
    ∃ ao cap, v = .slice ao l.length cap ∧ l.length ≤ cap ∧ cap ≤ maxLen ∧ ∀ i (h : i < l.length), ∃ b o, ao = some ⟨b, o, none⟩ ∧ b < w.heap.size ∧ w.cell? ⟨b, o + i * 2, none⟩ = some (.int .i64 (l[i]).1) ∧ w.cell? ⟨b, o + i * 2 + 1, none⟩ = some (.string (l[i]).2) := by
  obtain ⟨C, ⟨ao, cap, hv, h1, h2, h3⟩, hC⟩ := h
  refine ⟨ao, cap, hv, h1, h2, fun i hi => ?_⟩
  obtain ⟨b, o, ha, hob, hb, hc⟩ := h3 (by omega)
  have t0 := (hc i hi).2 0 (by decide)
  have t1 := (hc i hi).2 1 (by decide)
  rw [hC i hi] at t0 t1
  exact ⟨b, o, ha, hb, by simpa using t0, by simpa using t1⟩

theorem neqTerm (x1 y1 : Int) (x2 y2 : ByteArray) (w : World) : (binOp .neq 86 (.agg #[.int .i64 x1, .string x2]) (.agg #[.int .i64 y1, .string y2])).run Tryd.prog w = .ok (.bool (!(teq (x1, x2) (y1, y2)))) w := by
  simp [go_sem, teq, seq]
  by_cases h1 : x1 = y1 <;> by_cases h2 : x2.toList = y2.toList <;> simp [h1, h2]

end Go.Proofs.YtmgaeapckfdbpabDoor


/-
  DERIVED. THE WALKS of the comparisons of sizes.
-/
namespace Go.Proofs.YtmgaeapckfdbpabDoor
open Go.RowKit Go.IntWalk
set_option linter.unusedVariables false
set_option linter.unusedSimpArgs false
set_option maxRecDepth 100000

theorem HSizes.at {ok : Nat → Prop} {w : World} {v : Value} {l : List (List Tm)} (h : HSizes ok w v l) :
    ∃ ao cap, v = .slice ao l.length cap ∧ l.length ≤ cap ∧ cap ≤ maxLen ∧ ∀ i (h : i < l.length), ∃ b o au nu cu, ao = some ⟨b, o, none⟩ ∧ b < w.heap.size ∧ w.cell? ⟨b, o + i, none⟩ = some (.slice au nu cu) ∧ HTerms ok w (.slice au nu cu) l[i] := by
  obtain ⟨C, ⟨ao, cap, hv, h1, h2, h3⟩, hC⟩ := h
  refine ⟨ao, cap, hv, h1, h2, fun i hi => ?_⟩
  obtain ⟨b, o, ha, hob, hb, hc⟩ := h3 (by omega)
  have := (hc i hi).2 0 (by decide)
  obtain ⟨u, hu, ht⟩ := hC i hi
  rw [hu] at this
  have ht0 := ht
  obtain ⟨_, ⟨au, cu, rfl, _⟩, _⟩ := ht0
  exact ⟨b, o, au, _, cu, ha, hb, by simpa using this, ht⟩
theorem HTerms.under {ok : Nat → Prop} {w w' : World} {v : Value} {l : List Tm} (h : HTerms ok w v l) (a : Below w.heap.size w w') : HTerms ok w' v l := h.keep a.size fun i _ hl => a.block i hl
theorem HSizes.under {ok : Nat → Prop} {w w' : World} {v : Value} {l : List (List Tm)} (h : HSizes ok w v l) (a : Below w.heap.size w w') : HSizes ok w' v l := h.keep a.size fun i _ hl => a.block i hl
theorem HNames.under {ok : Nat → Prop} {w w' : World} {v : Value} {l : List ByteArray} (h : HNames ok w v l) (a : Below w.heap.size w w') : HNames ok w' v l := h.keep a.size fun i _ hl => a.block i hl
theorem below_of_drew {B : Nat} {w w' : World} (h : Below B w.drew w') : Below B w w' := ⟨h.os, h.tape, h.output, h.size, h.block⟩

end Go.Proofs.YtmgaeapckfdbpabDoor


/-
  DERIVED. THE WALKS of the comparisons of the document: names, terms, sizes: they only read.
-/
namespace Go.Proofs.YtmgaeapckfdbpabDoor
open Go.RowKit Go.IntWalk
set_option linter.unusedVariables false
set_option linter.unusedSimpArgs false
set_option maxRecDepth 100000

theorem drewN2 {w wr : World} {a : Nat} (h : wr = w.drewN a) (b : Nat) : Below w.heap.size w (wr.drewN b) := by rw [h]; exact ⟨rfl, rfl, rfl, Nat.le_refl _, fun _ _ => rfl⟩

end Go.Proofs.YtmgaeapckfdbpabDoor


/-
  DERIVED. Declarations as data; THE WALKS of their comparisons.
-/
namespace Go.Proofs.YtmgaeapckfdbpabDoor
open Go.RowKit Go.IntWalk
set_option linter.unusedVariables false
set_option linter.unusedSimpArgs false
set_option maxRecDepth 100000

def deq (a b : De) : Bool := seq a.name b.name && (a.elem == b.elem) && eqL teq a.n b.n
theorem deq_refl (a : De) : deq a a = true := by simp [deq, seq_refl, eqL_refl a.n (fun x _ => teq_refl x)]

/-- a slice of declarations -/
def HDes (ok : Nat → Prop) (w : World) (v : Value) (l : List De) : Prop := ∃ C, Sl ok 3 w v l.length C ∧ ∀ i (h : i < l.length), ∃ u, C i = [.string (l[i]).name, .int .u8 (l[i]).elem, u] ∧ HTerms ok w u (l[i]).n
theorem HDes.keep {ok : Nat → Prop} {w w' : World} {v : Value} {l : List De} (h : HDes ok w v l) (hs : w.heap.size ≤ w'.heap.size) (hk : ∀ i, ok i → i < w.heap.size → w'.heap[i]? = w.heap[i]?) : HDes ok w' v l := by
  obtain ⟨C, h1, h2⟩ := h
  refine ⟨C, h1.keep hs hk, fun i hi => ?_⟩
  obtain ⟨u, e, ht⟩ := h2 i hi
  exact ⟨u, e, ht.keep hs hk⟩
theorem HDes.under {ok : Nat → Prop} {w w' : World} {v : Value} {l : List De} (h : HDes ok w v l) (a : Below w.heap.size w w') : HDes ok w' v l := h.keep a.size fun i _ hl => a.block i hl
theorem HTerms.form {ok : Nat → Prop} {w : World} {v : Value} {l : List Tm} (h : HTerms ok w v l) : ∃ a n c, v = .slice a n c := by
  obtain ⟨_, ⟨au, cu, rfl, _⟩, _⟩ := h
  exact ⟨_, _, _, rfl⟩
theorem HDes.at {ok : Nat → Prop} {w : World} {v : Value} {l : List De} (h : HDes ok w v l) :
    ∃ ao cap, v = .slice ao l.length cap ∧ l.length ≤ cap ∧ cap ≤ maxLen ∧ ∀ i (h : i < l.length), ∃ b o au nu cu, ao = some ⟨b, o, none⟩ ∧ b < w.heap.size ∧ w.cell? ⟨b, o + i * 3, none⟩ = some (.string (l[i]).name) ∧ w.cell? ⟨b, o + i * 3 + 1, none⟩ = some (.int .u8 (l[i]).elem) ∧ w.cell? ⟨b, o + i * 3 + 2, none⟩ = some (.slice au nu cu) ∧ HTerms ok w (.slice au nu cu) (l[i]).n := by
  obtain ⟨C, ⟨ao, cap, hv, h1, h2, h3⟩, hC⟩ := h
  refine ⟨ao, cap, hv, h1, h2, fun i hi => ?_⟩
  obtain ⟨b, o, ha, hob, hb, hc⟩ := h3 (by omega)
  obtain ⟨u, hu, ht⟩ := hC i hi
  have t0 := (hc i hi).2 0 (by decide)
  have t1 := (hc i hi).2 1 (by decide)
  have t2 := (hc i hi).2 2 (by decide)
  rw [hu] at t0 t1 t2
  obtain ⟨au, nu, cu, rfl⟩ := ht.form
  exact ⟨b, o, au, nu, cu, ha, hb, by simpa using t0, by simpa using t1, by simpa using t2, ht⟩

end Go.Proofs.YtmgaeapckfdbpabDoor
