import Derived.Test.YtfipfdpohkafaaaDoorP27
import Derived.Deep.LoopGhost
set_option linter.unusedVariables false
set_option linter.unusedSimpArgs false
set_option maxHeartbeats 64000000
set_option maxRecDepth 100000
namespace Go.Proofs.YtfipfdpohkafaaaDoor
open Go.Shelf Go.RowKit Go.Lib Go.IntWalk
set_option linter.unusedVariables false
set_option linter.unusedSimpArgs false
def ieq (x y : Int) : Bool := x == y
theorem eqL_ieq : ∀ (l r : List Int), eqL ieq l r = true ↔ l = r
  | [], [] => by simp [eqL]
  | [], y :: r => by simp [eqL]
  | x :: l, [] => by simp [eqL]
  | x :: l, y :: r => by simp [eqL, ieq, eqL_ieq l r]
set_option maxHeartbeats 2000000 in
theorem sameInts_any {ok ok' : Nat → Prop} {w : World} {v u : Value} {l r : List Int} (hl : HInts ok w v l) (hr : HInts ok' w u r) :
    Calls Tryd.prog 22 #[v, u] w fun e w' => e = .returned (.bool (eqL ieq l r)) ∧ ∃ m, w' = w.drewN m := by
  obtain ⟨ao, cap, rfl, hc1, hc2, hat⟩ := hl.at
  obtain ⟨ao', cap', rfl, hd1, hd2, hat'⟩ := hr.at
  unfold maxLen at hc2 hd2
  obtain ⟨R, hR⟩ : ∃ R, R = eqL ieq l r := ⟨_, rfl⟩
  rw [← hR]
  have HR := hide hR
  clear hR hl hr
  obtain ⟨n, hn⟩ : ∃ n, n = l.length := ⟨_, rfl⟩
  obtain ⟨m, hm⟩ : ∃ m, m = r.length := ⟨_, rfl⟩
  rw [← hn] at hc1 ⊢
  rw [← hm] at hd1 ⊢
  have HN := hide hn
  have HM := hide hm
  by_cases hlen : n = m
  · subst hlen
    have hq : ((n : Int) != (n : Int)) = false := by simp
    clear hn hm
    go_enter Tryd.func22, Tryd.ntmps22
    go_wp2
    go_loopg [5] n (fun k v wr => ∃ i d, i ≤ n ∧ k = n - i ∧ v = .int .i64 (i : Nat) ∧ Hid (∀ j (h : j < l.length) (h' : j < r.length), j < i → ieq l[j] r[j] = true) ∧ wr = w.drewN d)
    case atStart => exact ⟨0, 0, Nat.zero_le _, rfl, rfl, fun j _ _ h => absurd h (Nat.not_lt_zero _), rfl⟩
    case round =>
      obtain ⟨i, d, hi, rfl, rfl, H, hW⟩ := hrel
      have HW := hide hW
      clear hW
      by_cases hlt : i < n
      · have hil : i < l.length := by have := HN.out; omega
        have hir : i < r.length := by have := HM.out; omega
        obtain ⟨b, o, rfl, hb, hc⟩ := hat i hil
        obtain ⟨b', o', rfl, hb', hc'⟩ := hat' i hir
        have e1 : wr.cell? ⟨b, o + i, none⟩ = some (.int .i64 l[i]) := by rw [HW.out]; exact hc
        have e2 : wr.cell? ⟨b', o' + i, none⟩ = some (.int .i64 r[i]) := by rw [HW.out]; exact hc'
        obtain ⟨x, hx⟩ : ∃ x, x = l[i] := ⟨_, rfl⟩
        obtain ⟨y, hy⟩ : ∃ y, y = r[i] := ⟨_, rfl⟩
        rw [← hx] at e1
        rw [← hy] at e2
        have HX := hide hx
        have HY := hide hy
        clear hc hc' hx hy
        clear hat hat'
        cases h0 : (x == y)
        · have hbad : ieq l[i] r[i] = false := by rw [← HX.out, ← HY.out]; exact h0
          have h1 : (x != y) = true := by simp [bne, h0]
          have HBAD := hide hbad
          clear hbad
          go_wp2_with fail
          go_quiet (fail)
          go_wp2
          go_ret
          exact ⟨ret_bool (by rw [HR.out, eqL_bad i hil hir HBAD.out]), _, by rw [HW.out, World.drewN_drewN]⟩
        · have hgood : ieq l[i] r[i] = true := by rw [← HX.out, ← HY.out]; exact h0
          have h1 : (x != y) = false := by simp [bne, h0]
          have HGOOD := hide hgood
          clear hgood
          go_wp2_with fail
          go_quiet (fail)
          go_wp2
          go_roundg (n - (i + 1))
          case measure => omega
          case rel => exact ⟨i + 1, _, by omega, rfl, by go_num, hide (fun j h h' hj => by
            rcases Nat.lt_or_eq_of_le (Nat.le_of_lt_succ hj) with h2 | h2
            · exact H.out j h h' h2
            · subst h2; exact HGOOD.out), by rw [HW.out, World.drewN_drewN]⟩
      · have hie : i = n := by omega
        have hge : ¬ (i : Int) < (n : Int) := by omega
        go_wp2
        go_ret
        refine ⟨ret_bool ?_, d, HW.out⟩
        rw [HR.out]
        exact (eqL_all (by rw [← HN.out, ← HM.out]) (fun j h h' => H.out j h h' (by have := HN.out; omega))).symm
  · have hq : ((n : Int) != (m : Int)) = true := by simp; omega
    clear hn hm
    go_enter Tryd.func22, Tryd.ntmps22
    go_wp2
    go_ret
    exact ⟨ret_bool (by rw [HR.out, eqL_len (by rw [← HN.out, ← HM.out]; exact hlen)]), 0, rfl⟩
theorem blk_ints {w : World} {g : Nat} {L : List Int} {t : TypeId} (h : w.heap[g]? = some (.cells (L.map (Value.int .i64)).toArray t (0, 0))) (hm : L.length ≤ maxLen) : HInts (fun i => g = i) w (.slice (some ⟨g, 0, none⟩) L.length L.length) L := by
  refine ⟨fun i => [.int .i64 (L[i]!)], ⟨_, _, rfl, Nat.le_refl _, hm, fun h0 => ⟨g, 0, rfl, rfl, lt_of h, fun i hi => ⟨rfl, fun j hj => ?_⟩⟩⟩, fun i hi => by simp [hi]⟩
  obtain rfl : j = 0 := by omega
  have := cell_of h i
  simp only [Nat.zero_add, Nat.mul_one, Nat.add_zero]
  rw [this]
  simp [hi]
end Go.Proofs.YtfipfdpohkafaaaDoor
