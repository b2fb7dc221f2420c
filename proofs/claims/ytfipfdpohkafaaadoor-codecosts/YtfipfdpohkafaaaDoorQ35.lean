import Derived.Test.YtfipfdpohkafaaaDoorQ33
import Derived.Test.YtfipfdpohkafaaaDoorQ29
import Derived.Deep.LoopGhost
set_option linter.unusedVariables false
set_option linter.unusedSimpArgs false
set_option maxHeartbeats 64000000
set_option maxRecDepth 100000
namespace Go.Proofs.YtfipfdpohkafaaaDoor
open Go.RowKit Go.IntWalk
set_option linter.unusedVariables false
set_option linter.unusedSimpArgs false
open Go in
set_option maxHeartbeats 8000000 in
theorem indexFuncG_any {ok : Nat → Prop} {w : World} {v : Value} {l : List Int} {N : Nat} {bs cs : Array Value} {p : Int → Bool} (eg : ∀ args w, (callFunc N args).run Tryd.prog w = .ok (.enter N args) w) (hl : HInts ok w v l) (hp : ∀ x ∈ l, ∀ W, Below w.heap.size w W → Calls Tryd.prog N (bs ++ #[.int .i64 x] ++ cs) W fun e W' => e = .returned (.bool (p x)) ∧ Below W.heap.size W W') :
    Calls Tryd.prog 34 #[v, .func (.func N) bs cs] w fun e w' => e = .returned (.int .i64 (Sk.idxI p 0 l)) ∧ Below w.heap.size w w' := by
  obtain ⟨ao, cap, rfl, hc1, hc2, -⟩ := hl.at
  unfold maxLen at hc2
  obtain ⟨R, hR⟩ : ∃ R, R = Sk.idxI p 0 l := ⟨_, rfl⟩
  rw [← hR]
  have HR := hide (show R = Sk.idxI p 0 (l.drop 0) by rw [List.drop_zero]; exact hR)
  have HL := hide hl
  have HP := hide hp
  clear hR hl hp
  obtain ⟨n, hn⟩ : ∃ n, n = l.length := ⟨_, rfl⟩
  rw [← hn] at hc1 ⊢
  have HN := hide hn
  clear hn
  go_enter Tryd.func34, Tryd.ntmps34
  go_wp2_with fail
  go_loopg [8] n (fun k v wr => ∃ i, i ≤ n ∧ k = n - i ∧ v = .int .i64 (i : Nat) ∧ Hid (R = Sk.idxI p i (l.drop i)) ∧ Below w.heap.size w wr)
  case atStart => exact ⟨0, Nat.zero_le _, rfl, rfl, HR, Below.refl _ _⟩
  case round =>
    clear HR
    obtain ⟨i, hi, rfl, rfl, H, hbr⟩ := hrel
    by_cases hlt : i < n
    case neg =>
      have hin : i = n := by omega
      subst hin
      have e1 : l.drop i = [] := List.drop_of_length_le (by have := HN.out; omega)
      have HZ := hide (show R = -1 by rw [H.out, e1]; rfl)
      clear e1
      go_wp2
      go_ret
      exact ⟨by rw [HZ.out]; rfl, hbr⟩
    case pos =>
      have hil : i < l.length := by have := HN.out; omega
      have hdr : l.drop i = l[i] :: l.drop (i + 1) := List.drop_eq_getElem_cons hil
      have hR1 := H.out
      rw [hdr] at hR1
      obtain ⟨ao', cap', eqs, -, -, hat2⟩ := (HL.out.under hbr).at
      injection eqs with q1 q2 q3
      subst q1
      obtain ⟨bb, o, rfl, hb, e0⟩ := hat2 i hil
      obtain ⟨y, hy⟩ : ∃ y, y = l[i] := ⟨_, rfl⟩
      have hc := HP.out y (by rw [hy]; exact List.getElem_mem hil) wr hbr
      rw [← hy] at e0 hR1
      unfold Sk.idxI at hR1
      generalize p y = q at hc hR1
      have HR1 := hide hR1
      clear hat2 q2 q3 hy hdr hR1 H
      go_wp2_with fail
      refine hc.mono ?_
      rintro e w4 ⟨rfl, b4⟩
      have B4 := hbr.trans (b4.mono hbr.size)
      clear hc
      cases q
      case false =>
        have HZ : Hid (R = Sk.idxI p (i + 1) (l.drop (i + 1))) := hide (by rw [HR1.out]; simp)
        clear HR1
        go_wp2_with fail
        go_roundg (n - (i + 1))
        case measure => omega
        case rel => exact ⟨i + 1, by omega, rfl, by go_num, HZ, B4⟩
      case true =>
        have HZ : Hid (R = (i : Int)) := hide (by rw [HR1.out]; simp)
        clear HR1
        go_wp2
        go_ret
        exact ⟨by rw [HZ.out]; rfl, B4⟩
end Go.Proofs.YtfipfdpohkafaaaDoor
