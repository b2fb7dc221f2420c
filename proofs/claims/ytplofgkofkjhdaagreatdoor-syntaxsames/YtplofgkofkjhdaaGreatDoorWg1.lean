/-
  DERIVED. THE WALKS of the weighing: whatever is weighed, a number is told.
-/
import Derived.Test.YtplofgkofkjhdaaGreatDoorSm11
namespace Go.Proofs.YtplofgkofkjhdaaGreatDoor
open Go.RowKit Go.IntWalk
set_option linter.unusedVariables false
set_option linter.unusedSimpArgs false
set_option maxRecDepth 100000

set_option maxHeartbeats 4000000 in
theorem weighNames_any {ok : Nat → Prop} {w : World} {v : Value} {l : List ByteArray} (hl : HNames ok w v l) (z : Int) :
    Calls Tryz.prog 23 #[v, .int .i64 z] w fun e w' => (∃ y, e = .returned (.int .i64 y)) ∧ w' = w := by
  obtain ⟨ao, cap, rfl, hc1, hc2, hat⟩ := hl.at
  unfold maxLen at hc2
  obtain ⟨n, hn⟩ : ∃ n, n = l.length := ⟨_, rfl⟩
  rw [← hn] at hc1 ⊢
  have HN := hide hn
  clear hn
  by_cases hbig : 2000 < n
  · have hd : decide ((2000 : Int) < (n : Int)) = true := by simp; omega
    clear hat
    go_enter Tryz.func23, Tryz.ntmps23
    go_wp2
    go_ret
    exact ⟨⟨_, rfl⟩, rfl⟩
  · have hd : decide ((2000 : Int) < (n : Int)) = false := by simp; omega
    go_enter Tryz.func23, Tryz.ntmps23
    go_wp2
    go_loopg [5] n (fun k v wr => ∃ i, i ≤ n ∧ k = n - i ∧ v = .int .i64 (i : Nat) ∧ wr = w)
    case atStart => exact ⟨0, Nat.zero_le _, rfl, rfl, rfl⟩
    case round =>
      obtain ⟨i, hi, rfl, rfl, rfl⟩ := hrel
      by_cases hlt : i < n
      · have hil : i < l.length := by have := HN.out; omega
        obtain ⟨b, o, rfl, hb, hc⟩ := hat i hil
        obtain ⟨x, hx⟩ : ∃ x, x = l[i] := ⟨_, rfl⟩
        rw [← hx] at hc
        clear hat hx
        by_cases h100 : 100 < x.size
        · have hd2 : decide ((100 : Int) < (x.size : Int)) = true := by simp; omega
          go_wp2
          go_ret
          exact ⟨⟨_, rfl⟩, rfl⟩
        · have hd2 : decide ((100 : Int) < (x.size : Int)) = false := by simp; omega
          go_wp2
          go_roundg (n - (i + 1))
          case measure => omega
          case rel => exact ⟨i + 1, by omega, rfl, by go_num, rfl⟩
      · have hie : i = n := by omega
        subst hie
        clear hat
        go_wp2
        go_ret
        exact ⟨⟨_, rfl⟩, rfl⟩

set_option maxHeartbeats 8000000 in
theorem weighSizes_any {ok : Nat → Prop} {w : World} {v : Value} {l : List (List Tm)} (hl : HSizes ok w v l) (z : Int) :
    Calls Tryz.prog 25 #[v, .int .i64 z] w fun e w' => (∃ y, e = .returned (.int .i64 y)) ∧ w' = w := by
  obtain ⟨ao, cap, rfl, hc1, hc2, hat⟩ := hl.at
  unfold maxLen at hc2
  obtain ⟨n, hn⟩ : ∃ n, n = l.length := ⟨_, rfl⟩
  rw [← hn] at hc1 ⊢
  have HN := hide hn
  clear hn
  go_enter Tryz.func25, Tryz.ntmps25
  go_wp2
  go_loopg [1, 5] n (fun k v1 v wr => ∃ i z, i ≤ n ∧ k = n - i ∧ v = .int .i64 (i : Nat) ∧ v1 = .int .i64 z ∧ wr = w)
  case atStart => exact ⟨0, _, Nat.zero_le _, rfl, rfl, rfl, rfl⟩
  case round =>
    obtain ⟨i, z, hi, rfl, rfl, rfl, rfl⟩ := hrel
    by_cases hlt : i < n
    · by_cases hz : 0 ≤ z
      · have hdz : decide ((0 : Int) ≤ z) = true := by simp [hz]
        have hil : i < l.length := by have := HN.out; omega
        obtain ⟨b, o, au, nu, cu, rfl, hb, hc, ht⟩ := hat i hil
        obtain ⟨ao', cap', hv, hd1, hd2, hat'⟩ := ht.at
        injection hv with q1 q2 q3
        subst q1 q2 q3
        unfold maxLen at hd2
        obtain ⟨m, hm⟩ : ∃ m, m = (l[i]).length := ⟨_, rfl⟩
        rw [← hm] at hc hd1
        have HM := hide hm
        clear hat hm
        by_cases h2 : 2000 < m
        · have hd3 : decide ((2000 : Int) < (m : Int)) = true := by simp; omega
          go_wp2
          go_ret
          exact ⟨⟨_, rfl⟩, rfl⟩
        · have hd3 : decide ((2000 : Int) < (m : Int)) = false := by simp; omega
          go_wp2
          go_loopg [6] m (fun k v wr' => ∃ j, j ≤ m ∧ k = m - j ∧ v = .int .i64 (j : Nat) ∧ wr' = wr)
          case atStart => exact ⟨0, Nat.zero_le _, rfl, rfl, rfl⟩
          case round =>
            obtain ⟨j, hj, rfl, rfl, rfl⟩ := hrel
            by_cases hjt : j < m
            · have hjl : j < (l[i]).length := by have := HM.out; omega
              obtain ⟨b', o', rfl, hb', hc', hd'⟩ := hat' j hjl
              obtain ⟨x, hx⟩ : ∃ x, x = ((l[i])[j]).2 := ⟨_, rfl⟩
              rw [← hx] at hd'
              clear hat' hc' hx
              by_cases h100 : 100 < x.size
              · have hd2 : decide ((100 : Int) < (x.size : Int)) = true := by simp; omega
                go_wp2
                go_ret
                exact ⟨⟨_, rfl⟩, rfl⟩
              · have hd2 : decide ((100 : Int) < (x.size : Int)) = false := by simp; omega
                go_wp2
                go_roundg (m - (j + 1))
                case measure => omega
                case rel => exact ⟨j + 1, by omega, rfl, by go_num, rfl⟩
            · have hje : j = m := by omega
              subst hje
              clear hat'
              go_wp2
              go_roundg (n - (i + 1))
              case measure => omega
              case rel => exact ⟨i + 1, _, by omega, rfl, by go_num, rfl, rfl⟩
      · have hdz : decide ((0 : Int) ≤ z) = false := by simp; omega
        clear hat
        go_wp2
        go_ret
        exact ⟨⟨_, rfl⟩, rfl⟩
    · have hie : i = n := by omega
      subst hie
      clear hat
      go_wp2
      go_ret
      exact ⟨⟨_, rfl⟩, rfl⟩

end Go.Proofs.YtplofgkofkjhdaaGreatDoor
