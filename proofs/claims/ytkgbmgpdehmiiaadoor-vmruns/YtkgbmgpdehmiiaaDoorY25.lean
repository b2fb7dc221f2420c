import Derived.Test.YtkgbmgpdehmiiaaDoorY08
import Derived.WalkKit
import Derived.WalkSpells
import Derived.IntWalk
import Derived.Deep.Cut
import Derived.Deep.LoopGhost
import Derived.Laws.Cover1
import Derived.Lib.Hide
set_option linter.unusedVariables false
set_option linter.unusedSimpArgs false
set_option maxHeartbeats 64000000
set_option maxRecDepth 100000
namespace Go.Proofs.YtkgbmgpdehmiiaaDoor
open Go.RowKit Go.IntWalk
set_option linter.unusedVariables false
set_option linter.unusedSimpArgs false
/-- what rowsGreat answers -/
structure RowsR2 (w : World) (L : List (List Int)) (e : Ending) (w' : World) : Prop where
  out : ∃ b, e = .returned (.bool b) ∧ (b = false → L.length ≤ 60 ∧ ∀ r ∈ L, r.length ≤ 10000) ∧ Below w.heap.size w w'
set_option maxHeartbeats 16000000 in
theorem rowsGreat2_any {ok : Nat → Prop} {w : World} {u : Value} {L : List (List Int)} (hu : HRow kLL ok w u L) : Calls Tryd.prog 7 #[u] w (RowsR2 w L) := by
  obtain ⟨aU, cU, rfl, hu1, hu2, -⟩ := hu.llAt
  unfold maxLen at hu2
  have HU := hide hu
  obtain ⟨n, hn⟩ : ∃ n, n = L.length := ⟨_, rfl⟩
  rw [← hn] at hu1 ⊢
  have HN := hide hn
  clear hu hn
  by_cases h60 : 60 < n
  case pos =>
    go_enter Tryd.func7, Tryd.ntmps7
    go_wp2
    go_ret
    exact ⟨⟨true, rfl, fun h => (by cases h), Below.refl _ _⟩⟩
  case neg =>
    have h61 : n ≤ 60 := by omega
    go_enter Tryd.func7, Tryd.ntmps7
    go_wp2_with fail
    go_loopg [3] n (fun k v wr => ∃ (i : Nat), i ≤ n ∧ k = n - i ∧ v = .int .i64 (i : Nat) ∧ Hid (∀ q (h : q < L.length), q < i → (L[q]).length ≤ 10000) ∧ wr = w)
    case atStart => exact ⟨0, Nat.zero_le _, rfl, rfl, hide (fun q _ h => by omega), rfl⟩
    case round =>
      obtain ⟨i, hi, rfl, rfl, HQ, rfl⟩ := hrel
      by_cases hlt : i < n
      case neg =>
        have hin : i = n := by omega
        subst hin
        go_wp2
        go_ret
        exact ⟨⟨false, rfl, fun _ => ⟨by have := HN.out; omega, fun r hr => by
          obtain ⟨q, hq, rfl⟩ := List.getElem_of_mem hr
          exact HQ.out q hq (by have := HN.out; omega)⟩, Below.refl _ _⟩⟩
      case pos =>
        have hil : i < L.length := by have := HN.out; omega
        obtain ⟨ao, cp, e1, -, -, hat⟩ := HU.out.llAt
        injection e1 with q1 q2 q3
        obtain ⟨b1, o1, v1, hb1, y1, x1, hi1⟩ := hat i hil
        rw [hb1] at q1
        subst q1
        obtain ⟨a2, c2, rfl, -, hc2, -⟩ := hi1.at
        unfold maxLen at hc2
        obtain ⟨m, hmm⟩ : ∃ m, m = (L[i]).length := ⟨_, rfl⟩
        rw [← hmm] at x1
        have HMM := hide hmm
        clear hat q2 q3 hb1 hi1 hmm
        by_cases hm : 10000 < m
        case pos =>
          go_wp2
          go_ret
          exact ⟨⟨true, rfl, fun h => (by cases h), Below.refl _ _⟩⟩
        case neg =>
          go_wp2_with fail
          go_roundg (n - (i + 1))
          case measure => omega
          case rel => exact ⟨i + 1, by omega, rfl, by go_num, hide (fun q h hq => by
            by_cases he : q = i
            · subst he
              have := HMM.out
              omega
            · exact HQ.out q h (by omega)), rfl⟩
end Go.Proofs.YtkgbmgpdehmiiaaDoor
