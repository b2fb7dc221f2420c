
/-
  DERIVED. Lists compared, part by part; THE WALKS of the comparisons of names and of terms.
-/
import Derived.Test.YtjpjedigajiomaaMem
import Derived.Deep.QuietTactic
import Derived.BigQuiet
import Derived.Deep.LoopGhost
namespace Go.Proofs.Ytjpjedigajiomaa
open Go.RowKit Go.IntWalk
set_option linter.unusedVariables false
set_option linter.unusedSimpArgs false
set_option maxRecDepth 100000

/-- two lists, part by part -/
def eqL {α : Type} (f : α → α → Bool) : List α → List α → Bool
  | [], [] => true
  | a :: l, b :: r => f a b && eqL f l r
  | _, _ => false

theorem eqL_len {α : Type} {f : α → α → Bool} : ∀ {l r : List α}, l.length ≠ r.length → eqL f l r = false
  | [], [], h => by simp at h
  | [], _ :: _, _ => rfl
  | _ :: _, [], _ => rfl
  | a :: l, b :: r, h => by
    have : eqL f l r = false := eqL_len (by simpa using h)
    simp [eqL, this]
theorem eqL_all {α : Type} {f : α → α → Bool} : ∀ {l r : List α}, l.length = r.length → (∀ i (h : i < l.length) (h' : i < r.length), f l[i] r[i] = true) → eqL f l r = true
  | [], [], _, _ => rfl
  | [], _ :: _, h, _ => by simp at h
  | _ :: _, [], h, _ => by simp at h
  | a :: l, b :: r, h, hf => by
    have h1 := hf 0 (by simp) (by simp)
    have h2 : eqL f l r = true := eqL_all (by simpa using h) (fun i hi hi' => hf (i + 1) (by simpa using hi) (by simpa using hi'))
    simp at h1
    simp [eqL, h1, h2]
theorem eqL_bad {α : Type} {f : α → α → Bool} : ∀ {l r : List α} (i : Nat) (h : i < l.length) (h' : i < r.length), f l[i] r[i] = false → eqL f l r = false
  | [], _, i, h, _, _ => by simp at h
  | _ :: _, [], i, _, h', _ => by simp at h'
  | a :: l, b :: r, 0, _, _, hf => by simp at hf; simp [eqL, hf]
  | a :: l, b :: r, i + 1, h, h', hf => by
    have : eqL f l r = false := eqL_bad i (by simpa using h) (by simpa using h') (by simpa using hf)
    simp [eqL, this]
theorem eqL_refl {α : Type} {f : α → α → Bool} (l : List α) (h : ∀ a, a ∈ l → f a a = true) : eqL f l l = true := eqL_all rfl (fun i hi _ => h _ (List.getElem_mem hi))

def seq (a b : ByteArray) : Bool := a.toList == b.toList
def teq (a b : Tm) : Bool := a.1 == b.1 && seq a.2 b.2
theorem seq_refl (a : ByteArray) : seq a a = true := by simp [seq]
theorem teq_refl (a : Tm) : teq a a = true := by simp [teq, seq]

theorem HNames.at {ok : Nat → Prop} {w : World} {v : Value} {l : List ByteArray} (h : HNames ok w v l) :
    ∃ ao cap, v = .slice ao l.length cap ∧ l.length ≤ cap ∧ cap ≤ maxLen ∧ ∀ i (h : i < l.length), ∃ b o, ao = some ⟨b, o, none⟩ ∧ b < w.heap.size ∧ w.cell? ⟨b, o + i, none⟩ = some (.string l[i]) := by
  obtain ⟨C, ⟨ao, cap, hv, h1, h2, h3⟩, hC⟩ := h
  refine ⟨ao, cap, hv, h1, h2, fun i hi => ?_⟩
  obtain ⟨b, o, ha, hob, hb, hc⟩ := h3 (by omega)
  have := (hc i hi).2 0 (by decide)
  rw [hC i hi] at this
  exact ⟨b, o, ha, hb, by simpa using this⟩
theorem HTerms.at {ok : Nat → Prop} {w : World} {v : Value} {l : List Tm} (h : HTerms ok w v l) :
    ∃ ao cap, v = .slice ao l.length cap ∧ l.length ≤ cap ∧ cap ≤ maxLen ∧ ∀ i (h : i < l.length), ∃ b o, ao = some ⟨b, o, none⟩ ∧ b < w.heap.size ∧ w.cell? ⟨b, o + i * 2, none⟩ = some (.int .i64 (l[i]).1) ∧ w.cell? ⟨b, o + i * 2 + 1, none⟩ = some (.string (l[i]).2) := by
  obtain ⟨C, ⟨ao, cap, hv, h1, h2, h3⟩, hC⟩ := h
  refine ⟨ao, cap, hv, h1, h2, fun i hi => ?_⟩
  obtain ⟨b, o, ha, hob, hb, hc⟩ := h3 (by omega)
  have t0 := (hc i hi).2 0 (by decide)
  have t1 := (hc i hi).2 1 (by decide)
  rw [hC i hi] at t0 t1
  exact ⟨b, o, ha, hb, by simpa using t0, by simpa using t1⟩

theorem neqTerm (x1 y1 : Int) (x2 y2 : ByteArray) (w : World) : (binOp .neq 39 (.agg #[.int .i64 x1, .string x2]) (.agg #[.int .i64 y1, .string y2])).run Try.prog w = .ok (.bool (!(teq (x1, x2) (y1, y2)))) w := by
  simp [go_sem, teq, seq]
  by_cases h1 : x1 = y1 <;> by_cases h2 : x2.toList = y2.toList <;> simp [h1, h2]

set_option maxHeartbeats 4000000 in
theorem equalTerm_any {ok ok' : Nat → Prop} {w : World} {v u : Value} {l r : List Tm} (hl : HTerms ok w v l) (hr : HTerms ok' w u r) :
    Calls Try.prog 27 #[v, u] w fun e w' => e = .returned (.bool (eqL teq l r)) ∧ Below w.heap.size w w' := by
  obtain ⟨ao, cap, rfl, hc1, hc2, hat⟩ := hl.at
  obtain ⟨ao', cap', rfl, hd1, hd2, hat'⟩ := hr.at
  unfold maxLen at hc2 hd2
  obtain ⟨R, hR⟩ : ∃ R, R = eqL teq l r := ⟨_, rfl⟩
  rw [← hR]
  have HR := hide hR
  clear hR hl hr
  obtain ⟨n, hn⟩ : ∃ n, n = l.length := ⟨_, rfl⟩
  obtain ⟨m, hm⟩ : ∃ m, m = r.length := ⟨_, rfl⟩
  rw [← hn] at hc1 ⊢
  rw [← hm] at hd1 ⊢
  have HN := hide hn
  have HM := hide hm
  by_cases hlen : n = m
  · subst hlen
    have hq : ((n : Int) != (n : Int)) = false := by simp
    clear hn hm
    go_enter Try.func27, Try.ntmps27
    go_wp2
    go_loopg [13] n (fun k v wr => ∃ i, i ≤ n ∧ k = n - i ∧ v = .int .i64 (i : Nat) ∧ Hid (∀ j (h : j < l.length) (h' : j < r.length), j < i → teq l[j] r[j] = true) ∧ Below w.heap.size w wr)
    case atStart => exact ⟨0, Nat.zero_le _, rfl, rfl, fun j _ _ h => absurd h (Nat.not_lt_zero _), Below.refl _ _⟩
    case round =>
      obtain ⟨i, hi, rfl, rfl, H, hbr⟩ := hrel
      by_cases hlt : i < n
      · have hltr := hlt
        obtain ⟨b, o, rfl, hb, hc, hd⟩ := hat i (by have := HN.out; omega)
        obtain ⟨b', o', rfl, hb', hc', hd'⟩ := hat' i (by have := HM.out; omega)
        have e1 := (hbr.cell (p := ⟨b, o + i * 2, none⟩) hb).trans hc
        have e2 := (hbr.cell (p := ⟨b', o' + i * 2, none⟩) hb').trans hc'
        have e3 := (hbr.cell (p := ⟨b, o + i * 2 + 1, none⟩) hb).trans hd
        have e4 := (hbr.cell (p := ⟨b', o' + i * 2 + 1, none⟩) hb').trans hd'
        have hil : i < l.length := by have := HN.out; omega
        have hir : i < r.length := by have := HM.out; omega
        obtain ⟨x, hx⟩ : ∃ x, x = l[i] := ⟨_, rfl⟩
        obtain ⟨y, hy⟩ : ∃ y, y = r[i] := ⟨_, rfl⟩
        rw [← hx] at e1 e3
        rw [← hy] at e2 e4
        have HX := hide hx
        have HY := hide hy
        clear hat hat' hc hc' hd hd' hx hy
        obtain ⟨x1, x2⟩ := x
        obtain ⟨y1, y2⟩ := y
        cases hxy : teq (x1, x2) (y1, y2)
        ·
          have hne := fun w => neqTerm x1 y1 x2 y2 w
          rw [hxy] at hne
          go_wp2
          go_region
          go_wp2
          go_ret
          refine ⟨ret_bool ?_, hbr.drew⟩
          rw [HR.out]
          exact (eqL_bad i (by rw [← HN.out]; exact hlt) (by rw [← HM.out]; exact hlt) (by rw [← HX.out, ← HY.out]; exact hxy)).symm
        ·
          have hne := fun w => neqTerm x1 y1 x2 y2 w
          rw [hxy] at hne
          go_wp2
          go_region
          go_wp2
          go_roundg (n - (i + 1))
          case measure => omega
          case rel =>
            refine ⟨i + 1, by omega, rfl, by go_num, fun j hj hj' hji => ?_, hbr.drew⟩
            by_cases e : j = i
            · subst e
              rw [← HX.out, ← HY.out]
              exact hxy
            · exact H.out j hj hj' (by omega)
      · have hie : i = n := by omega
        subst hie
        clear hat hat'
        go_wp2
        go_ret
        refine ⟨ret_bool ?_, hbr⟩
        rw [HR.out]
        exact (eqL_all (by rw [← HN.out, ← HM.out]) (fun j hj hj' => H.out j hj hj' (by rw [HN.out]; exact hj))).symm
  · have hq : ((n : Int) != (m : Int)) = true := by simp; omega
    clear hat hat' hn hm
    go_enter Try.func27, Try.ntmps27
    go_wp2
    go_ret
    refine ⟨ret_bool ?_, Below.refl _ _⟩
    rw [HR.out]
    exact (eqL_len (by rw [← HN.out, ← HM.out]; exact hlen)).symm

set_option maxHeartbeats 4000000 in
theorem sameTerms_any {ok ok' : Nat → Prop} {w : World} {v u : Value} {l r : List Tm} (hl : HTerms ok w v l) (hr : HTerms ok' w u r) :
    Calls Try.prog 14 #[v, u] w fun e w' => e = .returned (.bool (eqL teq l r)) ∧ Below w.heap.size w w' := by
  obtain ⟨ao, cap, rfl, hc1, hc2, hat⟩ := hl.at
  obtain ⟨ao', cap', rfl, hd1, hd2, hat'⟩ := hr.at
  unfold maxLen at hc2 hd2
  obtain ⟨R, hR⟩ : ∃ R, R = eqL teq l r := ⟨_, rfl⟩
  rw [← hR]
  have HR := hide hR
  clear hR hl hr
  obtain ⟨n, hn⟩ : ∃ n, n = l.length := ⟨_, rfl⟩
  obtain ⟨m, hm⟩ : ∃ m, m = r.length := ⟨_, rfl⟩
  rw [← hn] at hc1 ⊢
  rw [← hm] at hd1 ⊢
  have HN := hide hn
  have HM := hide hm
  by_cases hlen : n = m
  · subst hlen
    have hq : ((n : Int) != (n : Int)) = false := by simp
    clear hn hm
    go_enter Try.func14, Try.ntmps14
    go_wp2
    go_loopg [5] n (fun k v wr => ∃ i, i ≤ n ∧ k = n - i ∧ v = .int .i64 (i : Nat) ∧ Hid (∀ j (h : j < l.length) (h' : j < r.length), j < i → teq l[j] r[j] = true) ∧ Below w.heap.size w wr)
    case atStart => exact ⟨0, Nat.zero_le _, rfl, rfl, fun j _ _ h => absurd h (Nat.not_lt_zero _), Below.refl _ _⟩
    case round =>
      obtain ⟨i, hi, rfl, rfl, H, hbr⟩ := hrel
      by_cases hlt : i < n
      · have hltr := hlt
        obtain ⟨b, o, rfl, hb, hc, hd⟩ := hat i (by have := HN.out; omega)
        obtain ⟨b', o', rfl, hb', hc', hd'⟩ := hat' i (by have := HM.out; omega)
        have e1 := (hbr.cell (p := ⟨b, o + i * 2, none⟩) hb).trans hc
        have e2 := (hbr.cell (p := ⟨b', o' + i * 2, none⟩) hb').trans hc'
        have e3 := (hbr.cell (p := ⟨b, o + i * 2 + 1, none⟩) hb).trans hd
        have e4 := (hbr.cell (p := ⟨b', o' + i * 2 + 1, none⟩) hb').trans hd'
        have hil : i < l.length := by have := HN.out; omega
        have hir : i < r.length := by have := HM.out; omega
        obtain ⟨x, hx⟩ : ∃ x, x = l[i] := ⟨_, rfl⟩
        obtain ⟨y, hy⟩ : ∃ y, y = r[i] := ⟨_, rfl⟩
        rw [← hx] at e1 e3
        rw [← hy] at e2 e4
        have HX := hide hx
        have HY := hide hy
        clear hat hat' hc hc' hd hd' hx hy
        obtain ⟨x1, x2⟩ := x
        obtain ⟨y1, y2⟩ := y
        cases hxy : teq (x1, x2) (y1, y2)
        ·
          have hne := fun w => neqTerm x1 y1 x2 y2 w
          rw [hxy] at hne
          go_wp2
          go_region
          go_wp2
          go_ret
          refine ⟨ret_bool ?_, hbr.drew⟩
          rw [HR.out]
          exact (eqL_bad i (by rw [← HN.out]; exact hlt) (by rw [← HM.out]; exact hlt) (by rw [← HX.out, ← HY.out]; exact hxy)).symm
        ·
          have hne := fun w => neqTerm x1 y1 x2 y2 w
          rw [hxy] at hne
          go_wp2
          go_region
          go_wp2
          go_roundg (n - (i + 1))
          case measure => omega
          case rel =>
            refine ⟨i + 1, by omega, rfl, by go_num, fun j hj hj' hji => ?_, hbr.drew⟩
            by_cases e : j = i
            · subst e
              rw [← HX.out, ← HY.out]
              exact hxy
            · exact H.out j hj hj' (by omega)
      · have hie : i = n := by omega
        subst hie
        clear hat hat'
        go_wp2
        go_ret
        refine ⟨ret_bool ?_, hbr⟩
        rw [HR.out]
        exact (eqL_all (by rw [← HN.out, ← HM.out]) (fun j hj hj' => H.out j hj hj' (by rw [HN.out]; exact hj))).symm
  · have hq : ((n : Int) != (m : Int)) = true := by simp; omega
    clear hat hat' hn hm
    go_enter Try.func14, Try.ntmps14
    go_wp2
    go_ret
    refine ⟨ret_bool ?_, Below.refl _ _⟩
    rw [HR.out]
    exact (eqL_len (by rw [← HN.out, ← HM.out]; exact hlen)).symm

end Go.Proofs.Ytjpjedigajiomaa
