/-
  DERIVED. THE WALKS of the reader's terms and sizes, whatever comes.
-/
import Derived.Test.YtmgaeapckfdbpaaDoorM06
import Derived.Test.YtmgaeapckfdbpaaDoorM03
import Derived.Deep.QuietTactic
import Derived.BigQuiet
import Derived.Deep.LoopGhost
import Derived.Deep.RegionWith
namespace Go.Proofs.YtmgaeapckfdbpaaDoor
open Go.RowKit Go.IntWalk
set_option linter.unusedVariables false
set_option linter.unusedSimpArgs false
set_option maxRecDepth 100000

def tmV : Nat → World → Value → Tm → Prop := fun _ _ x t => x = .agg #[.int .i64 t.1, .string t.2]

/-- what stands behind a call in a reader's function: the blocks of its own are as they were -/
theorem Post.fail {α : Type} {b g cap : Nat} {I : Inp} {op : Nat} {V : Nat → World → Value → α → Prop} {nx : Nat} {w : World} {res : Res α} {w' : World} {c a : Nat} (h : res = .err c a) (hA : Aside [b] w.heap.size w w') : Post b g cap I op V nx w res (upE c a) w' := by
  subst h
  exact ⟨hA, rfl⟩
theorem Post.good {α : Type} {b g cap : Nat} {I : Inp} {op : Nat} {V : Nat → World → Value → α → Prop} {nx : Nat} {w : World} {res : Res α} {w' : World} {v : α} {n1 : Nat} {x : Value} (h : res = .ok v n1) (hA : Aside [b] w.heap.size w w') (hn : nx ≤ n1) (hR : Rd w' b g cap I.L I.len n1 op) (hV : V w.heap.size w' x v) : Post b g cap I op V nx w res (.returned x) w' := by
  subst h
  exact ⟨hA, hn, hR, x, rfl, hV⟩
theorem Post.aside {α : Type} {b g cap : Nat} {I : Inp} {op : Nat} {V : Nat → World → Value → α → Prop} {nx : Nat} {w : World} {res : Res α} {r : Ending} {w' : World} (h : Post b g cap I op V nx w res r w') : Aside [b] w.heap.size w w' := h.1

set_option maxHeartbeats 4000000 in
theorem term_any {w : World} {b g cap : Nat} {I : Inp} {nx op : Nat} (h : Rd w b g cap I.L I.len nx op) (minus : Bool) :
    Calls Tryd.prog 69 #[.pointer (some ⟨b, 0, none⟩), .bool minus] w (Post b g cap I op tmV nx w (Ps.term I minus nx)) := by
  have hb := h.bb
  have hg := h.gb
  obtain ⟨W, hW⟩ : ∃ W, W = (w.alloc (.cells #[.int .i64 0, .string ⟨#[]⟩] 97 (0, 0))).alloc (.cells #[.int .i64 1, .string ⟨#[]⟩] 97 (0, 0)) := ⟨_, rfl⟩
  have zW : W.heap.size = w.heap.size + 1 + 1 := by rw [hW]; simp
  have bW : Below w.heap.size w W := by rw [hW]; exact ((Below.refl _ w).alloc (Nat.le_refl _) _).alloc (by simp) _
  have hA0 : W.heap[w.heap.size]? = some (.cells #[.int .i64 0, .string ⟨#[]⟩] 97 (0, 0)) := by rw [hW]; exact keep_alloc (heap_new w _) _
  have hT0 : W.heap[w.heap.size + 1]? = some (.cells #[.int .i64 1, .string ⟨#[]⟩] 97 (0, 0)) := by
    have := heap_new (w.alloc (.cells #[.int .i64 0, .string ⟨#[]⟩] 97 (0, 0))) (.cells #[.int .i64 1, .string ⟨#[]⟩] 97 (0, 0))
    have e : (w.alloc (.cells #[.int .i64 0, .string ⟨#[]⟩] 97 (0, 0))).heap.size = w.heap.size + 1 := by simp
    rw [e] at this
    rw [hW]
    exact this
  have hRW : Rd W b g cap I.L I.len nx op := h.below bW
  have hp := @peek_any _ _ _ _ _ _ _ _ hRW
  obtain ⟨t, ht⟩ : ∃ t, t = I.pk nx := ⟨_, rfl⟩
  have hpk : peekT I.L I.len nx = t := ht.symm
  rw [hpk] at hp
  unfold tokV at hp
  have HT := hide ht
  clear hpk ht
  by_cases hk : t.kind = 3
  · have hlt : nx < I.L.length := kind_lt (by rw [← HT.out, hk]; decide)
    rw [hk] at hp
    go_enter Tryd.func69, Tryd.ntmps69
    go_wp2_with fail
    rw [← hW]
    refine hp.mono ?_
    rintro e w1 ⟨rfl, b1⟩
    have z1 := b1.size
    go_wp2_with fail
    refine (step_any ((hRW.below b1).alloc _) hlt).mono ?_
    rintro e w2 ⟨rfl, h2, a2⟩
    have z2 : w1.heap.size + 1 ≤ w2.heap.size := by simpa using a2.size
    have hN2 := a2.keep (heap_new w1 _) (by simp) (by simp; omega)
    have hA2 := a2.keep (keep_alloc ((aside b1 (S := [])).keep hA0 (lt_of hA0) (by simp)) _) (by simp; omega) (by simp; omega)
    have hT2 := a2.keep (keep_alloc ((aside b1 (S := [])).keep hT0 (lt_of hT0) (by simp)) _) (by simp; omega) (by simp; omega)
    have S2 : Aside [b] w.heap.size w w2 := (aside ((bW.trans (b1.mono (by omega))).alloc (by omega) _)).trans a2 (by simp; omega)
    have n3 := cell_of hN2 3
    have t0 := cell_of hT2 0
    have f0 := free_of hT2 0
    simp at n3 t0
    go_wp2_with fail
    have hT := set_in hT2 0 (.int .i64 t.n)
    have hA := keep_set hA2 (p := ⟨w.heap.size + 1, 0, none⟩) (by simp) (.int .i64 t.n)
    have hR := h2.set (p := ⟨w.heap.size + 1, 0, none⟩) (by simp; omega) (by simp; omega) (.int .i64 t.n)
    have hS := S2.set (p := ⟨w.heap.size + 1, 0, none⟩) (by simp) (.int .i64 t.n)
    simp at hT
    have z3 : (w2.setCell ⟨w.heap.size + 1, 0, none⟩ (.int .i64 t.n)).heap.size = w2.heap.size := by simp [World.setCell]
    generalize w2.setCell ⟨w.heap.size + 1, 0, none⟩ (.int .i64 t.n) = w3 at hT hA hR hS z3 ⊢
    clear hN2 hA2 hT2 S2 h2 a2 n3 t0 f0 hA0 hT0
    refine (take_any hR ⟨#[42]⟩ (by decide)).mono ?_
    rintro e w4 ⟨rfl, h4, a4⟩
    have z4 := a4.size
    have hA4 := a4.keep hA (by omega) (by simp; omega)
    have hT4 := a4.keep hT (by omega) (by simp; omega)
    have hS4 := hS.trans a4 (by omega)
    clear hA hT hS hR
    have es : (⟨#[42]⟩ : ByteArray).data.toList = [42] := rfl
    rw [es] at h4
    simp only [es]
    clear es
    cases hq : Ps.sees I [42] (nx + 1) with
    | false =>
      rw [hq] at h4
      simp only [Bool.false_eq_true, if_false] at h4
      have hA := hA4
      have hT := hT4
      have hR := h4
      have hS := hS4
      clear hA4 hT4 h4 hS4
      cases minus
      · have t0 := cell_of hT 0
        have t1 := cell_of hT 1
        have c0 := cell_of hA 0
        have c1 := cell_of hA 1
        have fA := fun o => free_of hA o
        have fT := fun o => free_of hT o
        simp at t0 t1 c0 c1
        go_wp2
        refine bodyPost_ret (v := .agg #[.int .i64 (t.n), .string (⟨#[]⟩ : ByteArray)]) (by simp [results, Tryd.results69, go_sem, c0, c1]) rfl ?_
        exact Post.good (v := (t.n, (⟨#[]⟩ : ByteArray))) (by unfold Ps.term; rw [← HT.out, if_pos hk, hq]; simp [Ps.sg]) (((hS).set (by simp) _).set (by simp) _) (by omega) (((hR).set (by simp; omega) (by simp; omega) _).set (by simp; omega) (by simp; omega) _) rfl
      · have t0 := cell_of hT 0
        have t1 := cell_of hT 1
        have c0 := cell_of hA 0
        have c1 := cell_of hA 1
        have fA := fun o => free_of hA o
        have fT := fun o => free_of hT o
        simp at t0 t1 c0 c1
        go_wp2
        refine bodyPost_ret (v := .agg #[.int .i64 (wrap64 (-(t.n))), .string (⟨#[]⟩ : ByteArray)]) (by simp [results, Tryd.results69, go_sem, c0, c1]) rfl ?_
        exact Post.good (v := (wrap64 (-(t.n)), (⟨#[]⟩ : ByteArray))) (by unfold Ps.term; rw [← HT.out, if_pos hk, hq]; simp [Ps.sg]) ((((hS).set (by simp) _).set (by simp) _).set (by simp) _) (by omega) ((((hR).set (by simp; omega) (by simp; omega) _).set (by simp; omega) (by simp; omega) _).set (by simp; omega) (by simp; omega) _) rfl
    | true =>
      rw [hq] at h4
      simp only [if_true] at h4
      go_wp2_with fail
      refine (name_any h4).mono ?_
      rintro e w5 ⟨a5, hres⟩
      have hS := hS4.trans a5 (by omega)
      have z5 := a5.size
      have hA := a5.keep hA4 (by omega) (by simp; omega)
      have hT5 := a5.keep hT4 (by omega) (by simp; omega)
      clear hA4 hT4 hS4 h4
      cases hn : Ps.name I (nx + 1 + 1) with
      | err c a =>
        rw [hn] at hres
        obtain rfl : e = _ := hres
        exact ⟨rfl, Post.fail (by unfold Ps.term; rw [← HT.out, if_pos hk, hq]; simp [hn, Res.bind]) hS⟩
      | ok s n1 =>
        rw [hn] at hres
        obtain ⟨le5, hR5, _, rfl, rfl⟩ := hres
        have hT := hT5
        have hR := hR5
        clear hT5 hR5
        cases minus
        · have t0 := cell_of hT 0
          have t1 := cell_of hT 1
          have c0 := cell_of hA 0
          have c1 := cell_of hA 1
          have fA := fun o => free_of hA o
          have fT := fun o => free_of hT o
          simp at t0 t1 c0 c1
          go_wp2
          refine bodyPost_ret (v := .agg #[.int .i64 (t.n), .string s]) (by simp [results, Tryd.results69, go_sem, c0, c1]) rfl ?_
          exact Post.good (v := (t.n, s)) (by unfold Ps.term; rw [← HT.out, if_pos hk, hq]; simp [Ps.sg, hn, Res.bind]) ((((hS).set (by simp) _).set (by simp) _).set (by simp) _) (by omega) ((((hR).set (by simp; omega) (by simp; omega) _).set (by simp; omega) (by simp; omega) _).set (by simp; omega) (by simp; omega) _) rfl
        · have t0 := cell_of hT 0
          have t1 := cell_of hT 1
          have c0 := cell_of hA 0
          have c1 := cell_of hA 1
          have fA := fun o => free_of hA o
          have fT := fun o => free_of hT o
          simp at t0 t1 c0 c1
          go_wp2
          refine bodyPost_ret (v := .agg #[.int .i64 (wrap64 (-(t.n))), .string s]) (by simp [results, Tryd.results69, go_sem, c0, c1]) rfl ?_
          exact Post.good (v := (wrap64 (-(t.n)), s)) (by unfold Ps.term; rw [← HT.out, if_pos hk, hq]; simp [Ps.sg, hn, Res.bind]) (((((hS).set (by simp) _).set (by simp) _).set (by simp) _).set (by simp) _) (by omega) (((((hR).set (by simp; omega) (by simp; omega) _).set (by simp; omega) (by simp; omega) _).set (by simp; omega) (by simp; omega) _).set (by simp; omega) (by simp; omega) _) rfl
  · have hkb : (t.kind == 3) = false := beq_eq_false_iff_ne.2 hk
    go_enter Tryd.func69, Tryd.ntmps69
    go_wp2_with fail
    rw [← hW]
    refine hp.mono ?_
    rintro e w1 ⟨rfl, b1⟩
    have z1 := b1.size
    go_wp2_with fail
    refine (name_any ((hRW.below b1).alloc _)).mono ?_
    rintro e w5 ⟨a5, hres⟩
    have z5 : w1.heap.size + 1 ≤ w5.heap.size := by simpa using a5.size
    have hA := a5.keep (keep_alloc ((aside b1 (S := [])).keep hA0 (lt_of hA0) (by simp)) _) (by simp; omega) (by simp; omega)
    have hT5 := a5.keep (keep_alloc ((aside b1 (S := [])).keep hT0 (lt_of hT0) (by simp)) _) (by simp; omega) (by simp; omega)
    have hS : Aside [b] w.heap.size w w5 := (aside ((bW.trans (b1.mono (by omega))).alloc (by omega) _)).trans a5 (by simp; omega)
    cases hn : Ps.name I nx with
    | err c a =>
      rw [hn] at hres
      obtain rfl : e = _ := hres
      exact ⟨rfl, Post.fail (by unfold Ps.term; rw [← HT.out, if_neg hk]; simp [hn, Res.bind]) hS⟩
    | ok s n1 =>
      rw [hn] at hres
      obtain ⟨le5, hR5, _, rfl, rfl⟩ := hres
      have hT := hT5
      have hR := hR5
      clear hT5 hR5
      cases minus
      · have t0 := cell_of hT 0
        have t1 := cell_of hT 1
        have c0 := cell_of hA 0
        have c1 := cell_of hA 1
        have fA := fun o => free_of hA o
        have fT := fun o => free_of hT o
        simp at t0 t1 c0 c1
        go_wp2
        refine bodyPost_ret (v := .agg #[.int .i64 (1), .string s]) (by simp [results, Tryd.results69, go_sem, c0, c1]) rfl ?_
        exact Post.good (v := (1, s)) (by unfold Ps.term; rw [← HT.out, if_neg hk]; simp [Ps.sg, hn, Res.bind]) ((((hS).set (by simp) _).set (by simp) _).set (by simp) _) (by omega) ((((hR).set (by simp; omega) (by simp; omega) _).set (by simp; omega) (by simp; omega) _).set (by simp; omega) (by simp; omega) _) rfl
      · have t0 := cell_of hT 0
        have t1 := cell_of hT 1
        have c0 := cell_of hA 0
        have c1 := cell_of hA 1
        have fA := fun o => free_of hA o
        have fT := fun o => free_of hT o
        simp at t0 t1 c0 c1
        go_wp2
        refine bodyPost_ret (v := .agg #[.int .i64 (-1), .string s]) (by simp [results, Tryd.results69, go_sem, c0, c1]) rfl ?_
        exact Post.good (v := (-1, s)) (by unfold Ps.term; rw [← HT.out, if_neg hk]; simp [Ps.sg, hn, Res.bind]; unfold wrap64; omega) (((((hS).set (by simp) _).set (by simp) _).set (by simp) _).set (by simp) _) (by omega) (((((hR).set (by simp; omega) (by simp; omega) _).set (by simp; omega) (by simp; omega) _).set (by simp; omega) (by simp; omega) _).set (by simp; omega) (by simp; omega) _) rfl

end Go.Proofs.YtmgaeapckfdbpaaDoor


/-
  DERIVED. Lists compared, part by part; THE WALKS of the comparisons of names and of terms.
-/
namespace Go.Proofs.YtmgaeapckfdbpaaDoor
open Go.RowKit Go.IntWalk
set_option linter.unusedVariables false
set_option linter.unusedSimpArgs false
set_option maxRecDepth 100000

/-- two lists, part by part -/
def eqL {α : Type} (f : α → α → Bool) : List α → List α → Bool
  | [], [] => true
  | a :: l, b :: r => f a b && eqL f l r
  | _, _ => false

theorem eqL_len {α : Type} {f : α → α → Bool} : ∀ {l r : List α}, l.length ≠ r.length → eqL f l r = false
  | [], [], h => by simp at h
  | [], _ :: _, _ => rfl
  | _ :: _, [], _ => rfl
  | a :: l, b :: r, h => by
    have : eqL f l r = false := eqL_len (by simpa using h)
    simp [eqL, this]
theorem eqL_all {α : Type} {f : α → α → Bool} : ∀ {l r : List α}, l.length = r.length → (∀ i (h : i < l.length) (h' : i < r.length), f l[i] r[i] = true) → eqL f l r = true
  | [], [], _, _ => rfl
  | [], _ :: _, h, _ => by simp at h
  | _ :: _, [], h, _ => by simp at h
  | a :: l, b :: r, h, hf => by
    have h1 := hf 0 (by simp) (by simp)
    have h2 : eqL f l r = true := eqL_all (by simpa using h) (fun i hi hi' => hf (i + 1) (by simpa using hi) (by simpa using hi'))
    simp at h1
    simp [eqL, h1, h2]
theorem eqL_bad {α : Type} {f : α → α → Bool} : ∀ {l r : List α} (i : Nat) (h : i < l.length) (h' : i < r.length), f l[i] r[i] = false → eqL f l r = false
  | [], _, i, h, _, _ => by simp at h
  | _ :: _, [], i, _, h', _ => by simp at h'
  | a :: l, b :: r, 0, _, _, hf => by simp at hf; simp [eqL, hf]
  | a :: l, b :: r, i + 1, h, h', hf => by
    have : eqL f l r = false := eqL_bad i (by simpa using h) (by simpa using h') (by simpa using hf)
    simp [eqL, this]
theorem eqL_refl {α : Type} {f : α → α → Bool} (l : List α) (h : ∀ a, a ∈ l → f a a = true) : eqL f l l = true := eqL_all rfl (fun i hi _ => h _ (List.getElem_mem hi))

def seq (a b : ByteArray) : Bool := a.toList == b.toList
def teq (a b : Tm) : Bool := a.1 == b.1 && seq a.2 b.2
theorem seq_refl (a : ByteArray) : seq a a = true := by simp [seq]
theorem teq_refl (a : Tm) : teq a a = true := by simp [teq, seq]

theorem HNames.at {ok : Nat → Prop} {w : World} {v : Value} {l : List ByteArray} (h : HNames ok w v l) :
    ∃ ao cap, v = .slice ao l.length cap ∧ l.length ≤ cap ∧ cap ≤ maxLen ∧ ∀ i (h : i < l.length), ∃ b o, ao = some ⟨b, o, none⟩ ∧ b < w.heap.size ∧ w.cell? ⟨b, o + i, none⟩ = some (.string l[i]) := by
  obtain ⟨C, ⟨ao, cap, hv, h1, h2, h3⟩, hC⟩ := h
  refine ⟨ao, cap, hv, h1, h2, fun i hi => ?_⟩
  obtain ⟨b, o, ha, hob, hb, hc⟩ := h3 (by omega)
  have := (hc i hi).2 0 (by decide)
  rw [hC i hi] at this
  exact ⟨b, o, ha, hb, by simpa using this⟩
theorem HTerms.at {ok : Nat → Prop} {w : World} {v : Value} {l : List Tm} (h : HTerms ok w v l) :
    ∃ ao cap, v = .slice ao l.length cap ∧ l.length ≤ cap ∧ cap ≤ maxLen ∧ ∀ i (h : i < l.length), ∃ b o, ao = some ⟨b, o, none⟩ ∧ b < w.heap.size ∧ w.cell? ⟨b, o + i * 2, none⟩ = some (.int .i64 (l[i]).1) ∧ w.cell? ⟨b, o + i * 2 + 1, none⟩ = some (.string (l[i]).2) := by
  obtain ⟨C, ⟨ao, cap, hv, h1, h2, h3⟩, hC⟩ := h
  refine ⟨ao, cap, hv, h1, h2, fun i hi => ?_⟩
  obtain ⟨b, o, ha, hob, hb, hc⟩ := h3 (by omega)
  have t0 := (hc i hi).2 0 (by decide)
  have t1 := (hc i hi).2 1 (by decide)
  rw [hC i hi] at t0 t1
  exact ⟨b, o, ha, hb, by simpa using t0, by simpa using t1⟩

theorem neqTerm (x1 y1 : Int) (x2 y2 : ByteArray) (w : World) : (binOp .neq 97 (.agg #[.int .i64 x1, .string x2]) (.agg #[.int .i64 y1, .string y2])).run Tryd.prog w = .ok (.bool (!(teq (x1, x2) (y1, y2)))) w := by
  simp [go_sem, teq, seq]
  by_cases h1 : x1 = y1 <;> by_cases h2 : x2.toList = y2.toList <;> simp [h1, h2]

set_option maxHeartbeats 4000000 in
theorem equalStr_any {ok ok' : Nat → Prop} {w : World} {v u : Value} {l r : List ByteArray} (hl : HNames ok w v l) (hr : HNames ok' w u r) :
    Calls Tryd.prog 27 #[v, u] w fun e w' => e = .returned (.bool (eqL seq l r)) ∧ Below w.heap.size w w' := by
  obtain ⟨ao, cap, rfl, hc1, hc2, hat⟩ := hl.at
  obtain ⟨ao', cap', rfl, hd1, hd2, hat'⟩ := hr.at
  unfold maxLen at hc2 hd2
  obtain ⟨R, hR⟩ : ∃ R, R = eqL seq l r := ⟨_, rfl⟩
  rw [← hR]
  have HR := hide hR
  clear hR hl hr
  obtain ⟨n, hn⟩ : ∃ n, n = l.length := ⟨_, rfl⟩
  obtain ⟨m, hm⟩ : ∃ m, m = r.length := ⟨_, rfl⟩
  rw [← hn] at hc1 ⊢
  rw [← hm] at hd1 ⊢
  have HN := hide hn
  have HM := hide hm
  by_cases hlen : n = m
  · subst hlen
    have hq : ((n : Int) != (n : Int)) = false := by simp
    clear hn hm
    go_enter Tryd.func27, Tryd.ntmps27
    go_wp2
    go_loopg [13] n (fun k v wr => ∃ i, i ≤ n ∧ k = n - i ∧ v = .int .i64 (i : Nat) ∧ Hid (∀ j (h : j < l.length) (h' : j < r.length), j < i → seq l[j] r[j] = true) ∧ Below w.heap.size w wr)
    case atStart => exact ⟨0, Nat.zero_le _, rfl, rfl, fun j _ _ h => absurd h (Nat.not_lt_zero _), Below.refl _ _⟩
    case round =>
      obtain ⟨i, hi, rfl, rfl, H, hbr⟩ := hrel
      by_cases hlt : i < n
      · have hltr := hlt
        obtain ⟨b, o, rfl, hb, hc⟩ := hat i (by have := HN.out; omega)
        obtain ⟨b', o', rfl, hb', hc'⟩ := hat' i (by have := HM.out; omega)
        have e1 := (hbr.cell (p := ⟨b, o + i, none⟩) hb).trans hc
        have e2 := (hbr.cell (p := ⟨b', o' + i, none⟩) hb').trans hc'
        have hil : i < l.length := by have := HN.out; omega
        have hir : i < r.length := by have := HM.out; omega
        obtain ⟨x, hx⟩ : ∃ x, x = l[i] := ⟨_, rfl⟩
        obtain ⟨y, hy⟩ : ∃ y, y = r[i] := ⟨_, rfl⟩
        rw [← hx] at e1
        rw [← hy] at e2
        have HX := hide hx
        have HY := hide hy
        clear hat hat' hc hc' hx hy
        cases hxy : seq x y
        ·
          have hne : (x.toList == y.toList) = false := by unfold seq at hxy; exact hxy
          go_wp2
          go_region
          go_wp2
          go_ret
          refine ⟨ret_bool ?_, hbr.drew⟩
          rw [HR.out]
          exact (eqL_bad i (by rw [← HN.out]; exact hlt) (by rw [← HM.out]; exact hlt) (by rw [← HX.out, ← HY.out]; exact hxy)).symm
        ·
          have hne : (x.toList == y.toList) = true := by unfold seq at hxy; exact hxy
          go_wp2
          go_region
          go_wp2
          go_roundg (n - (i + 1))
          case measure => omega
          case rel =>
            refine ⟨i + 1, by omega, rfl, by go_num, fun j hj hj' hji => ?_, hbr.drew⟩
            by_cases e : j = i
            · subst e
              rw [← HX.out, ← HY.out]
              exact hxy
            · exact H.out j hj hj' (by omega)
      · have hie : i = n := by omega
        subst hie
        clear hat hat'
        go_wp2
        go_ret
        refine ⟨ret_bool ?_, hbr⟩
        rw [HR.out]
        exact (eqL_all (by rw [← HN.out, ← HM.out]) (fun j hj hj' => H.out j hj hj' (by rw [HN.out]; exact hj))).symm
  · have hq : ((n : Int) != (m : Int)) = true := by simp; omega
    clear hat hat' hn hm
    go_enter Tryd.func27, Tryd.ntmps27
    go_wp2
    go_ret
    refine ⟨ret_bool ?_, Below.refl _ _⟩
    rw [HR.out]
    exact (eqL_len (by rw [← HN.out, ← HM.out]; exact hlen)).symm

set_option maxHeartbeats 4000000 in
theorem equalTerm_any {ok ok' : Nat → Prop} {w : World} {v u : Value} {l r : List Tm} (hl : HTerms ok w v l) (hr : HTerms ok' w u r) :
    Calls Tryd.prog 58 #[v, u] w fun e w' => e = .returned (.bool (eqL teq l r)) ∧ Below w.heap.size w w' := by
  obtain ⟨ao, cap, rfl, hc1, hc2, hat⟩ := hl.at
  obtain ⟨ao', cap', rfl, hd1, hd2, hat'⟩ := hr.at
  unfold maxLen at hc2 hd2
  obtain ⟨R, hR⟩ : ∃ R, R = eqL teq l r := ⟨_, rfl⟩
  rw [← hR]
  have HR := hide hR
  clear hR hl hr
  obtain ⟨n, hn⟩ : ∃ n, n = l.length := ⟨_, rfl⟩
  obtain ⟨m, hm⟩ : ∃ m, m = r.length := ⟨_, rfl⟩
  rw [← hn] at hc1 ⊢
  rw [← hm] at hd1 ⊢
  have HN := hide hn
  have HM := hide hm
  by_cases hlen : n = m
  · subst hlen
    have hq : ((n : Int) != (n : Int)) = false := by simp
    clear hn hm
    go_enter Tryd.func58, Tryd.ntmps58
    go_wp2
    go_loopg [13] n (fun k v wr => ∃ i, i ≤ n ∧ k = n - i ∧ v = .int .i64 (i : Nat) ∧ Hid (∀ j (h : j < l.length) (h' : j < r.length), j < i → teq l[j] r[j] = true) ∧ Below w.heap.size w wr)
    case atStart => exact ⟨0, Nat.zero_le _, rfl, rfl, fun j _ _ h => absurd h (Nat.not_lt_zero _), Below.refl _ _⟩
    case round =>
      obtain ⟨i, hi, rfl, rfl, H, hbr⟩ := hrel
      by_cases hlt : i < n
      · have hltr := hlt
        obtain ⟨b, o, rfl, hb, hc, hd⟩ := hat i (by have := HN.out; omega)
        obtain ⟨b', o', rfl, hb', hc', hd'⟩ := hat' i (by have := HM.out; omega)
        have e1 := (hbr.cell (p := ⟨b, o + i * 2, none⟩) hb).trans hc
        have e2 := (hbr.cell (p := ⟨b', o' + i * 2, none⟩) hb').trans hc'
        have e3 := (hbr.cell (p := ⟨b, o + i * 2 + 1, none⟩) hb).trans hd
        have e4 := (hbr.cell (p := ⟨b', o' + i * 2 + 1, none⟩) hb').trans hd'
        have hil : i < l.length := by have := HN.out; omega
        have hir : i < r.length := by have := HM.out; omega
        obtain ⟨x, hx⟩ : ∃ x, x = l[i] := ⟨_, rfl⟩
        obtain ⟨y, hy⟩ : ∃ y, y = r[i] := ⟨_, rfl⟩
        rw [← hx] at e1 e3
        rw [← hy] at e2 e4
        have HX := hide hx
        have HY := hide hy
        clear hat hat' hc hc' hd hd' hx hy
        obtain ⟨x1, x2⟩ := x
        obtain ⟨y1, y2⟩ := y
        cases hxy : teq (x1, x2) (y1, y2)
        ·
          have hne := fun w => neqTerm x1 y1 x2 y2 w
          rw [hxy] at hne
          go_wp2
          go_region
          go_wp2
          go_ret
          refine ⟨ret_bool ?_, hbr.drew⟩
          rw [HR.out]
          exact (eqL_bad i (by rw [← HN.out]; exact hlt) (by rw [← HM.out]; exact hlt) (by rw [← HX.out, ← HY.out]; exact hxy)).symm
        ·
          have hne := fun w => neqTerm x1 y1 x2 y2 w
          rw [hxy] at hne
          go_wp2
          go_region
          go_wp2
          go_roundg (n - (i + 1))
          case measure => omega
          case rel =>
            refine ⟨i + 1, by omega, rfl, by go_num, fun j hj hj' hji => ?_, hbr.drew⟩
            by_cases e : j = i
            · subst e
              rw [← HX.out, ← HY.out]
              exact hxy
            · exact H.out j hj hj' (by omega)
      · have hie : i = n := by omega
        subst hie
        clear hat hat'
        go_wp2
        go_ret
        refine ⟨ret_bool ?_, hbr⟩
        rw [HR.out]
        exact (eqL_all (by rw [← HN.out, ← HM.out]) (fun j hj hj' => H.out j hj hj' (by rw [HN.out]; exact hj))).symm
  · have hq : ((n : Int) != (m : Int)) = true := by simp; omega
    clear hat hat' hn hm
    go_enter Tryd.func58, Tryd.ntmps58
    go_wp2
    go_ret
    refine ⟨ret_bool ?_, Below.refl _ _⟩
    rw [HR.out]
    exact (eqL_len (by rw [← HN.out, ← HM.out]; exact hlen)).symm

set_option maxHeartbeats 1000000 in
theorem sameSize_any {ok ok' : Nat → Prop} {w : World} {v u : Value} {l r : List Tm} (hl : HTerms ok w v l) (hr : HTerms ok' w u r) :
    Calls Tryd.prog 42 #[v, u] w fun e w' => e = .returned (.bool (eqL teq l r)) ∧ Below w.heap.size w w' := by
  go_enter Tryd.func42, Tryd.ntmps42
  go_wp2_with fail
  refine (equalTerm_any hl hr).mono ?_
  rintro e w' ⟨rfl, hb⟩
  go_wp2
  go_ret
  exact ⟨rfl, hb⟩

end Go.Proofs.YtmgaeapckfdbpaaDoor


/-
  DERIVED. THE WALKS of the comparisons of sizes.
-/
namespace Go.Proofs.YtmgaeapckfdbpaaDoor
open Go.RowKit Go.IntWalk
set_option linter.unusedVariables false
set_option linter.unusedSimpArgs false
set_option maxRecDepth 100000

theorem HSizes.at {ok : Nat → Prop} {w : World} {v : Value} {l : List (List Tm)} (h : HSizes ok w v l) :
    ∃ ao cap, v = .slice ao l.length cap ∧ l.length ≤ cap ∧ cap ≤ maxLen ∧ ∀ i (h : i < l.length), ∃ b o au nu cu, ao = some ⟨b, o, none⟩ ∧ b < w.heap.size ∧ w.cell? ⟨b, o + i, none⟩ = some (.slice au nu cu) ∧ HTerms ok w (.slice au nu cu) l[i] := by
  obtain ⟨C, ⟨ao, cap, hv, h1, h2, h3⟩, hC⟩ := h
  refine ⟨ao, cap, hv, h1, h2, fun i hi => ?_⟩
  obtain ⟨b, o, ha, hob, hb, hc⟩ := h3 (by omega)
  have := (hc i hi).2 0 (by decide)
  obtain ⟨u, hu, ht⟩ := hC i hi
  rw [hu] at this
  have ht0 := ht
  obtain ⟨_, ⟨au, cu, rfl, _⟩, _⟩ := ht0
  exact ⟨b, o, au, _, cu, ha, hb, by simpa using this, ht⟩
theorem HTerms.under {ok : Nat → Prop} {w w' : World} {v : Value} {l : List Tm} (h : HTerms ok w v l) (a : Below w.heap.size w w') : HTerms ok w' v l := h.keep a.size fun i _ hl => a.block i hl
theorem HSizes.under {ok : Nat → Prop} {w w' : World} {v : Value} {l : List (List Tm)} (h : HSizes ok w v l) (a : Below w.heap.size w w') : HSizes ok w' v l := h.keep a.size fun i _ hl => a.block i hl
theorem HNames.under {ok : Nat → Prop} {w w' : World} {v : Value} {l : List ByteArray} (h : HNames ok w v l) (a : Below w.heap.size w w') : HNames ok w' v l := h.keep a.size fun i _ hl => a.block i hl
theorem below_of_drew {B : Nat} {w w' : World} (h : Below B w.drew w') : Below B w w' := ⟨h.os, h.tape, h.output, h.size, h.block⟩

set_option maxHeartbeats 8000000 in
theorem equalSizes_any {ok ok' : Nat → Prop} {w : World} {v u : Value} {l r : List (List Tm)} (hl : HSizes ok w v l) (hr : HSizes ok' w u r) :
    Calls Tryd.prog 43 #[v, u, .func (.func 42) #[] #[]] w fun e w' => e = .returned (.bool (eqL (eqL teq) l r)) ∧ Below w.heap.size w w' := by
  obtain ⟨ao, cap, rfl, hc1, hc2, hat⟩ := hl.at
  obtain ⟨ao', cap', rfl, hd1, hd2, hat'⟩ := hr.at
  unfold maxLen at hc2 hd2
  obtain ⟨R, hR⟩ : ∃ R, R = eqL (eqL teq) l r := ⟨_, rfl⟩
  rw [← hR]
  have HR := hide hR
  clear hR hl hr
  obtain ⟨n, hn⟩ : ∃ n, n = l.length := ⟨_, rfl⟩
  obtain ⟨m, hm⟩ : ∃ m, m = r.length := ⟨_, rfl⟩
  rw [← hn] at hc1 ⊢
  rw [← hm] at hd1 ⊢
  have HN := hide hn
  have HM := hide hm
  by_cases hlen : n = m
  · subst hlen
    have hq : ((n : Int) != (n : Int)) = false := by simp
    clear hn hm
    go_enter Tryd.func43, Tryd.ntmps43
    go_wp2
    go_loopg [17] n (fun k v wr => ∃ i, i ≤ n ∧ k = n - i ∧ v = .int .i64 (i : Nat) ∧ Hid (∀ j (h : j < l.length) (h' : j < r.length), j < i → (eqL teq) l[j] r[j] = true) ∧ Below w.heap.size w wr)
    case atStart => exact ⟨0, Nat.zero_le _, rfl, rfl, fun j _ _ h => absurd h (Nat.not_lt_zero _), Below.refl _ _⟩
    case round =>
      obtain ⟨i, hi, rfl, rfl, H, hbr⟩ := hrel
      by_cases hlt : i < n
      · have hil : i < l.length := by have := HN.out; omega
        have hir : i < r.length := by have := HM.out; omega
        obtain ⟨b, o, au, nu, cu, rfl, hb, hc, ht⟩ := hat i hil
        obtain ⟨b', o', au', nu', cu', rfl, hb', hc', ht'⟩ := hat' i hir
        have e1 := (hbr.cell (p := ⟨b, o + i, none⟩) hb).trans hc
        have e2 := (hbr.cell (p := ⟨b', o' + i, none⟩) hb').trans hc'
        have g1 := ht.under hbr
        have g2 := ht'.under hbr
        clear hc hc' ht ht'
        clear hat hat'
        cases hxy : (eqL teq) l[i] r[i]
        ·
          go_wp2_with fail
          refine (sameSize_any g1 g2).mono ?_
          rintro e w1 ⟨rfl, b1⟩
          rw [hxy]
          all_goals
            have hb1 := hbr.trans (b1.mono hbr.size)
            go_wp2
            go_ret
            refine ⟨ret_bool ?_, hb1⟩
            rw [HR.out]
            exact (eqL_bad i hil hir hxy).symm
        ·
          go_wp2_with fail
          refine (sameSize_any g1 g2).mono ?_
          rintro e w1 ⟨rfl, b1⟩
          rw [hxy]
          all_goals
            have hb1 := hbr.trans (b1.mono hbr.size)
            go_wp2
            go_roundg (n - (i + 1))
            case measure => omega
            case rel =>
              refine ⟨i + 1, by omega, rfl, by go_num, fun j hj hj' hji => ?_, hb1⟩
              by_cases e : j = i
              · subst e
                exact hxy
              · exact H.out j hj hj' (by omega)
      · have hie : i = n := by omega
        subst hie
        clear hat hat'
        go_wp2
        go_ret
        refine ⟨ret_bool ?_, hbr⟩
        rw [HR.out]
        exact (eqL_all (by rw [← HN.out, ← HM.out]) (fun j hj hj' => H.out j hj hj' (by rw [HN.out]; exact hj))).symm
  · have hq : ((n : Int) != (m : Int)) = true := by simp; omega
    clear hat hat' hn hm
    go_enter Tryd.func43, Tryd.ntmps43
    go_wp2
    go_ret
    refine ⟨ret_bool ?_, Below.refl _ _⟩
    rw [HR.out]
    exact (eqL_len (by rw [← HN.out, ← HM.out]; exact hlen)).symm

end Go.Proofs.YtmgaeapckfdbpaaDoor


/-
  DERIVED. THE WALKS of the comparisons of the document: names, terms, sizes: they only read.
-/
namespace Go.Proofs.YtmgaeapckfdbpaaDoor
open Go.RowKit Go.IntWalk
set_option linter.unusedVariables false
set_option linter.unusedSimpArgs false
set_option maxRecDepth 100000

theorem drewN2 {w wr : World} {a : Nat} (h : wr = w.drewN a) (b : Nat) : Below w.heap.size w (wr.drewN b) := by rw [h]; exact ⟨rfl, rfl, rfl, Nat.le_refl _, fun _ _ => rfl⟩

end Go.Proofs.YtmgaeapckfdbpaaDoor


/-
  DERIVED. Declarations as data; THE WALKS of their comparisons.
-/
namespace Go.Proofs.YtmgaeapckfdbpaaDoor
open Go.RowKit Go.IntWalk
set_option linter.unusedVariables false
set_option linter.unusedSimpArgs false
set_option maxRecDepth 100000

def deq (a b : De) : Bool := seq a.name b.name && (a.elem == b.elem) && eqL teq a.n b.n
theorem deq_refl (a : De) : deq a a = true := by simp [deq, seq_refl, eqL_refl a.n (fun x _ => teq_refl x)]

/-- a slice of declarations -/
def HDes (ok : Nat → Prop) (w : World) (v : Value) (l : List De) : Prop := ∃ C, Sl ok 3 w v l.length C ∧ ∀ i (h : i < l.length), ∃ u, C i = [.string (l[i]).name, .int .u8 (l[i]).elem, u] ∧ HTerms ok w u (l[i]).n
theorem HDes.keep {ok : Nat → Prop} {w w' : World} {v : Value} {l : List De} (h : HDes ok w v l) (hs : w.heap.size ≤ w'.heap.size) (hk : ∀ i, ok i → i < w.heap.size → w'.heap[i]? = w.heap[i]?) : HDes ok w' v l := by
  obtain ⟨C, h1, h2⟩ := h
  refine ⟨C, h1.keep hs hk, fun i hi => ?_⟩
  obtain ⟨u, e, ht⟩ := h2 i hi
  exact ⟨u, e, ht.keep hs hk⟩
theorem HDes.under {ok : Nat → Prop} {w w' : World} {v : Value} {l : List De} (h : HDes ok w v l) (a : Below w.heap.size w w') : HDes ok w' v l := h.keep a.size fun i _ hl => a.block i hl
theorem HTerms.form {ok : Nat → Prop} {w : World} {v : Value} {l : List Tm} (h : HTerms ok w v l) : ∃ a n c, v = .slice a n c := by
  obtain ⟨_, ⟨au, cu, rfl, _⟩, _⟩ := h
  exact ⟨_, _, _, rfl⟩
theorem HDes.at {ok : Nat → Prop} {w : World} {v : Value} {l : List De} (h : HDes ok w v l) :
    ∃ ao cap, v = .slice ao l.length cap ∧ l.length ≤ cap ∧ cap ≤ maxLen ∧ ∀ i (h : i < l.length), ∃ b o au nu cu, ao = some ⟨b, o, none⟩ ∧ b < w.heap.size ∧ w.cell? ⟨b, o + i * 3, none⟩ = some (.string (l[i]).name) ∧ w.cell? ⟨b, o + i * 3 + 1, none⟩ = some (.int .u8 (l[i]).elem) ∧ w.cell? ⟨b, o + i * 3 + 2, none⟩ = some (.slice au nu cu) ∧ HTerms ok w (.slice au nu cu) (l[i]).n := by
  obtain ⟨C, ⟨ao, cap, hv, h1, h2, h3⟩, hC⟩ := h
  refine ⟨ao, cap, hv, h1, h2, fun i hi => ?_⟩
  obtain ⟨b, o, ha, hob, hb, hc⟩ := h3 (by omega)
  obtain ⟨u, hu, ht⟩ := hC i hi
  have t0 := (hc i hi).2 0 (by decide)
  have t1 := (hc i hi).2 1 (by decide)
  have t2 := (hc i hi).2 2 (by decide)
  rw [hu] at t0 t1 t2
  obtain ⟨au, nu, cu, rfl⟩ := ht.form
  exact ⟨b, o, au, nu, cu, ha, hb, by simpa using t0, by simpa using t1, by simpa using t2, ht⟩

set_option maxHeartbeats 4000000 in
theorem sameDecl_any {ok ok' : Nat → Prop} {w : World} {a b : De} {au au' : Option Addr} {nu cu nu' cu' : Nat} (ha : HTerms ok w (.slice au nu cu) a.n) (hb : HTerms ok' w (.slice au' nu' cu') b.n) :
    Calls Tryd.prog 29 #[.agg #[.string a.name, .int .u8 a.elem, .slice au nu cu], .agg #[.string b.name, .int .u8 b.elem, .slice au' nu' cu']] w fun e w' => e = .returned (.bool (deq a b)) ∧ Below w.heap.size w w' := by
  obtain ⟨R, hR⟩ : ∃ R, R = deq a b := ⟨_, rfl⟩
  rw [← hR]
  unfold deq at hR
  have hB : ∀ o o', Below w.heap.size w ((w.alloc o).alloc o') := fun o o' => ((Below.refl _ w).alloc (Nat.le_refl _) o).alloc (by simp) o'
  have hcall := fun o o' => sameSize_any (ha.under (hB o o')) (hb.under (hB o o'))
  obtain ⟨an, ae, al⟩ := a
  obtain ⟨bn, be, bl⟩ := b
  simp only at hR hcall ⊢
  unfold seq at hR
  cases h0 : (an.toList == bn.toList)
  · have : R = false := by rw [hR, h0]; rfl
    subst this
    clear hR hcall
    go_enter Tryd.func29, Tryd.ntmps29
    go_wp2
    go_ret
    exact ⟨rfl, hB _ _⟩
  · cases h1 : (ae == be)
    · have : R = false := by rw [hR, h0, h1]; rfl
      subst this
      clear hR hcall
      go_enter Tryd.func29, Tryd.ntmps29
      go_wp2
      go_ret
      exact ⟨rfl, hB _ _⟩
    · have h3 : R = eqL teq al bl := by rw [hR, h0, h1]; rfl
      subst h3
      clear hR
      go_enter Tryd.func29, Tryd.ntmps29
      go_wp2_with fail
      refine (hcall _ _).mono ?_
      rintro e w1 ⟨rfl, b1⟩
      have hb1 := (hB _ _).trans (b1.mono (by simp; omega))
      clear hcall
      go_wp2
      go_ret
      exact ⟨rfl, hb1⟩

set_option maxHeartbeats 8000000 in
theorem equalDecls_any {ok ok' : Nat → Prop} {w : World} {v u : Value} {l r : List De} (hl : HDes ok w v l) (hr : HDes ok' w u r) :
    Calls Tryd.prog 28 #[v, u, .func (.func 29) #[] #[]] w fun e w' => e = .returned (.bool (eqL deq l r)) ∧ Below w.heap.size w w' := by
  obtain ⟨ao, cap, rfl, hc1, hc2, hat⟩ := hl.at
  obtain ⟨ao', cap', rfl, hd1, hd2, hat'⟩ := hr.at
  unfold maxLen at hc2 hd2
  obtain ⟨R, hR⟩ : ∃ R, R = eqL deq l r := ⟨_, rfl⟩
  rw [← hR]
  have HR := hide hR
  clear hR hl hr
  obtain ⟨n, hn⟩ : ∃ n, n = l.length := ⟨_, rfl⟩
  obtain ⟨m, hm⟩ : ∃ m, m = r.length := ⟨_, rfl⟩
  rw [← hn] at hc1 ⊢
  rw [← hm] at hd1 ⊢
  have HN := hide hn
  have HM := hide hm
  by_cases hlen : n = m
  · subst hlen
    have hq : ((n : Int) != (n : Int)) = false := by simp
    clear hn hm
    go_enter Tryd.func28, Tryd.ntmps28
    go_wp2
    go_loopg [17] n (fun k v wr => ∃ i, i ≤ n ∧ k = n - i ∧ v = .int .i64 (i : Nat) ∧ Hid (∀ j (h : j < l.length) (h' : j < r.length), j < i → deq l[j] r[j] = true) ∧ Below w.heap.size w wr)
    case atStart => exact ⟨0, Nat.zero_le _, rfl, rfl, fun j _ _ h => absurd h (Nat.not_lt_zero _), Below.refl _ _⟩
    case round =>
      obtain ⟨i, hi, rfl, rfl, H, hbr⟩ := hrel
      by_cases hlt : i < n
      · have hil : i < l.length := by have := HN.out; omega
        have hir : i < r.length := by have := HM.out; omega
        obtain ⟨b, o, au, nu, cu, rfl, hb, hc, hd, he, ht⟩ := hat i hil
        obtain ⟨b', o', au', nu', cu', rfl, hb', hc', hd', he', ht'⟩ := hat' i hir
        have e1 := (hbr.cell (p := ⟨b, o + i * 3, none⟩) hb).trans hc
        have e2 := (hbr.cell (p := ⟨b', o' + i * 3, none⟩) hb').trans hc'
        have e3 := (hbr.cell (p := ⟨b, o + i * 3 + 1, none⟩) hb).trans hd
        have e4 := (hbr.cell (p := ⟨b', o' + i * 3 + 1, none⟩) hb').trans hd'
        have e5 := (hbr.cell (p := ⟨b, o + i * 3 + 2, none⟩) hb).trans he
        have e6 := (hbr.cell (p := ⟨b', o' + i * 3 + 2, none⟩) hb').trans he'
        have zb : b < wr.heap.size := Nat.lt_of_lt_of_le hb hbr.size
        have zb' : b' < wr.heap.size := Nat.lt_of_lt_of_le hb' hbr.size
        have f2 := fun o => ((Below.refl _ wr).alloc (Nat.le_refl _) o).cell (p := ⟨b', o' + i * 3, none⟩) zb' |>.trans e2
        have f4 := fun o => ((Below.refl _ wr).alloc (Nat.le_refl _) o).cell (p := ⟨b', o' + i * 3 + 1, none⟩) zb' |>.trans e4
        have f6 := fun o => ((Below.refl _ wr).alloc (Nat.le_refl _) o).cell (p := ⟨b', o' + i * 3 + 2, none⟩) zb' |>.trans e6
        have hB : ∀ o o', Below wr.heap.size wr ((wr.alloc o).alloc o') := fun o o' => ((Below.refl _ wr).alloc (Nat.le_refl _) o).alloc (by simp) o'
        have g1 := ht.under hbr
        have g2 := ht'.under hbr
        clear hc hc' hd hd' he he' ht ht'
        clear hat hat'
        cases hxy : deq l[i] r[i]
        ·
          go_wp2_with fail
          refine (sameDecl_any (g1.under (hB _ _)) (g2.under (hB _ _))).mono ?_
          rintro e w1 ⟨rfl, b1⟩
          rw [hxy]
          all_goals
            have hb1 := hbr.trans (((hB _ _).trans (b1.mono (by simp; omega))).mono hbr.size)
            go_wp2
            go_ret
            refine ⟨ret_bool ?_, hb1⟩
            rw [HR.out]
            exact (eqL_bad i hil hir hxy).symm
        ·
          go_wp2_with fail
          refine (sameDecl_any (g1.under (hB _ _)) (g2.under (hB _ _))).mono ?_
          rintro e w1 ⟨rfl, b1⟩
          rw [hxy]
          all_goals
            have hb1 := hbr.trans (((hB _ _).trans (b1.mono (by simp; omega))).mono hbr.size)
            go_wp2
            go_roundg (n - (i + 1))
            case measure => omega
            case rel =>
              refine ⟨i + 1, by omega, rfl, by go_num, fun j hj hj' hji => ?_, hb1⟩
              by_cases e : j = i
              · subst e
                exact hxy
              · exact H.out j hj hj' (by omega)
      · have hie : i = n := by omega
        subst hie
        clear hat hat'
        go_wp2
        go_ret
        refine ⟨ret_bool ?_, hbr⟩
        rw [HR.out]
        exact (eqL_all (by rw [← HN.out, ← HM.out]) (fun j hj hj' => H.out j hj hj' (by rw [HN.out]; exact hj))).symm
  · have hq : ((n : Int) != (m : Int)) = true := by simp; omega
    clear hat hat' hn hm
    go_enter Tryd.func28, Tryd.ntmps28
    go_wp2
    go_ret
    refine ⟨ret_bool ?_, Below.refl _ _⟩
    rw [HR.out]
    exact (eqL_len (by rw [← HN.out, ← HM.out]; exact hlen)).symm

end Go.Proofs.YtmgaeapckfdbpaaDoor
