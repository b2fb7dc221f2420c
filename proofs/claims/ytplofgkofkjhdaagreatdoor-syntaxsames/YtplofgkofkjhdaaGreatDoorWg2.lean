/-
  DERIVED. THE WALKS of the weighing of expressions, of declarations and of programs: whatever is weighed, an answer is told.
-/
import Derived.Test.YtplofgkofkjhdaaGreatDoorWg1
namespace Go.Proofs.YtplofgkofkjhdaaGreatDoor
open Go.RowKit Go.IntWalk
set_option linter.unusedVariables false
set_option linter.unusedSimpArgs false
set_option maxRecDepth 100000

def Weighs (q : Nat) : Prop := ∀ (ok : Nat → Prop) (w : World) (v : Value) (l : List Ex) (z : Int), partsL l < q → HExs ok w v l →
  Calls Tryz.prog 26 #[v, .int .i64 z] w fun e w' => (∃ y, e = .returned (.int .i64 y)) ∧ w' = w

set_option maxHeartbeats 8000000 in
theorem weighExprs_step (q : Nat) (HI : Weighs q) : Weighs (q + 1) := by
  intro ok w v l z hqq hl
  have HQ := hide hqq
  clear hqq
  obtain ⟨ao, cap, rfl, hc1, hc2, hat⟩ := hl.at
  unfold maxLen at hc2
  obtain ⟨n, hn⟩ : ∃ n, n = l.length := ⟨_, rfl⟩
  rw [← hn] at hc1 ⊢
  have HN := hide hn
  clear hn
  go_enter Tryz.func26, Tryz.ntmps26
  go_wp2
  go_loopg [1, 5] n (fun k v1 v wr => ∃ i z, i ≤ n ∧ k = n - i ∧ v = .int .i64 (i : Nat) ∧ v1 = .int .i64 z ∧ wr = w)
  case atStart => exact ⟨0, _, Nat.zero_le _, rfl, rfl, rfl, rfl⟩
  case round =>
    obtain ⟨i, z, hi, rfl, rfl, rfl, rfl⟩ := hrel
    by_cases hlt : i < n
    · by_cases hz : 0 ≤ z
      · have hdz : decide ((0 : Int) ≤ z) = true := by simp [hz]
        have hil : i < l.length := by have := HN.out; omega
        obtain ⟨b, o, y, rfl, _, hb, ⟨c0, c1, c2, c3, c4, c5⟩, hy⟩ := hat i hil
        obtain ⟨g1, g2, g3, g4, yS, yL⟩ := hy.parts
        clear g1 g2 g3 g4
        have hqi : partsL (l[i]).L < q := by
          have h1 := Nat.lt_of_le_of_lt (parts_mem l i hil) HQ.out
          obtain ⟨p, hp⟩ : ∃ p, p = l[i] := ⟨_, rfl⟩
          rw [← hp] at h1 ⊢
          obtain ⟨p1, p2, p3, p4, p5, p6⟩ := p
          rw [parts] at h1
          simp only [Ex.L]
          omega
        clear hat hy
        by_cases h100 : 100 < y.name.size
        · have hd2 : decide ((100 : Int) < (y.name.size : Int)) = true := by simp; omega
          go_wp2
          go_ret
          exact ⟨⟨_, rfl⟩, rfl⟩
        · have hd2 : decide ((100 : Int) < (y.name.size : Int)) = false := by simp; omega
          go_wp2_with fail
          refine (weighSizes_any yS z).mono ?_
          rintro e w1 ⟨⟨z1, rfl⟩, rfl⟩
          by_cases hz1 : 0 ≤ z1
          · have hdz1 : decide ((0 : Int) ≤ z1) = true := by simp [hz1]
            go_wp2_with fail
            refine (HI _ _ _ _ z1 hqi yL).mono ?_
            rintro e w2 ⟨⟨z2, rfl⟩, rfl⟩
            go_wp2
            go_roundg (n - (i + 1))
            case measure => omega
            case rel => exact ⟨i + 1, z2, by omega, rfl, by go_num, rfl, rfl⟩
          · have hdz1 : decide ((0 : Int) ≤ z1) = false := by simp; omega
            go_wp2
            go_roundg (n - (i + 1))
            case measure => omega
            case rel => exact ⟨i + 1, z1, by omega, rfl, by go_num, rfl, rfl⟩
      · have hdz : decide ((0 : Int) ≤ z) = false := by simp; omega
        clear hat
        go_wp2
        go_ret
        exact ⟨⟨_, rfl⟩, rfl⟩
    · have hie : i = n := by omega
      subst hie
      clear hat
      go_wp2
      go_ret
      exact ⟨⟨_, rfl⟩, rfl⟩

theorem weighs : ∀ q, Weighs q
  | 0 => fun _ _ _ _ _ h => absurd h (Nat.not_lt_zero _)
  | q + 1 => weighExprs_step q (weighs q)
theorem weighExprs_any {ok : Nat → Prop} {w : World} {v : Value} {l : List Ex} (hl : HExs ok w v l) (z : Int) :
    Calls Tryz.prog 26 #[v, .int .i64 z] w fun e w' => (∃ y, e = .returned (.int .i64 y)) ∧ w' = w := weighs (partsL l + 1) _ _ _ _ _ (Nat.lt_succ_self _) hl

/-- one size in a new block -/
theorem HSizes.one {ok : Nat → Prop} {w : World} {a : Option Addr} {n c : Nat} {l : List Tm} (h : HTerms ok w (.slice a n c) l) (t : TypeId) :
    HSizes (fun i => ok i ∨ i = w.heap.size) (w.alloc (.cells #[.slice a n c] t (0, 0))) (.slice (some ⟨w.heap.size, 0, none⟩) 1 1) [l] := by
  have hn := heap_new w (.cells #[.slice a n c] t (0, 0))
  refine ⟨fun _ => [.slice a n c], ⟨_, 1, rfl, Nat.le_refl _, by decide, fun _ => ⟨_, 0, rfl, .inr rfl, lt_of hn, fun i hi => ⟨rfl, fun j hj => ?_⟩⟩⟩, fun i hi => ⟨_, rfl, ?_⟩⟩
  · have e1 : i = 0 := by simpa using hi
    have e2 : j = 0 := by omega
    subst e1 e2
    rw [cell_of hn]
    rfl
  · have e1 : i = 0 := by simpa using hi
    subst e1
    exact (h.under ((Below.refl _ w).alloc (Nat.le_refl _) _)).wide (fun i hi _ => .inl hi)

set_option maxHeartbeats 8000000 in
theorem weighDecls_any {ok : Nat → Prop} {w : World} {v : Value} {l : List De} (hl : HDes ok w v l) (z : Int) :
    Calls Tryz.prog 24 #[v, .int .i64 z] w fun e w' => (∃ y, e = .returned (.int .i64 y)) ∧ Below w.heap.size w w' := by
  obtain ⟨ao, cap, rfl, hc1, hc2, hat⟩ := hl.at
  unfold maxLen at hc2
  obtain ⟨n, hn⟩ : ∃ n, n = l.length := ⟨_, rfl⟩
  rw [← hn] at hc1 ⊢
  have HN := hide hn
  clear hn
  go_enter Tryz.func24, Tryz.ntmps24
  go_wp2
  go_loopg [1, 5] n (fun k v1 v wr => ∃ i z, i ≤ n ∧ k = n - i ∧ v = .int .i64 (i : Nat) ∧ v1 = .int .i64 z ∧ Below w.heap.size w wr)
  case atStart => exact ⟨0, _, Nat.zero_le _, rfl, rfl, rfl, Below.refl _ _⟩
  case round =>
    obtain ⟨i, z, hi, rfl, rfl, rfl, hbr⟩ := hrel
    by_cases hlt : i < n
    · by_cases hz : 0 ≤ z
      · have hdz : decide ((0 : Int) ≤ z) = true := by simp [hz]
        have hil : i < l.length := by have := HN.out; omega
        obtain ⟨b, o, au, nu, cu, rfl, hb, hc, hd, he, ht⟩ := hat i hil
        have e1 := (hbr.cell (p := ⟨b, o + i * 3, none⟩) hb).trans hc
        have e5 := (hbr.cell (p := ⟨b, o + i * 3 + 2, none⟩) hb).trans he
        obtain ⟨x, hx⟩ : ∃ x, x = (l[i]).name := ⟨_, rfl⟩
        rw [← hx] at e1
        have hS := HSizes.one (ht.under hbr) 90
        clear hat hc hd he ht hx
        by_cases h100 : 100 < x.size
        · have hd2 : decide ((100 : Int) < (x.size : Int)) = true := by simp; omega
          go_wp2
          go_ret
          exact ⟨⟨_, rfl⟩, hbr⟩
        · have hd2 : decide ((100 : Int) < (x.size : Int)) = false := by simp; omega
          go_wp2_with fail
          refine (weighSizes_any hS z).mono ?_
          rintro e w1 ⟨⟨z1, rfl⟩, rfl⟩
          go_wp2
          go_roundg (n - (i + 1))
          case measure => omega
          case rel => exact ⟨i + 1, z1, by omega, rfl, by go_num, rfl, hbr.alloc hbr.size _⟩
      · have hdz : decide ((0 : Int) ≤ z) = false := by simp; omega
        clear hat
        go_wp2
        go_ret
        exact ⟨⟨_, rfl⟩, hbr⟩
    · have hie : i = n := by omega
      subst hie
      clear hat
      go_wp2
      go_ret
      exact ⟨⟨_, rfl⟩, hbr⟩

end Go.Proofs.YtplofgkofkjhdaaGreatDoor
