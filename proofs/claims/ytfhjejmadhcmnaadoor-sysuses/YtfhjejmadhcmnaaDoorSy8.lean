/-
  DERIVED. THE WALKS of SameInts and of the laws' beginning.
-/
import Derived.Test.YtfhjejmadhcmnaaDoorSy7
namespace Go.Proofs.YtfhjejmadhcmnaaDoor
open Go.Shelf Go.RowKit Go.Lib Go.IntWalk
set_option linter.unusedVariables false
set_option linter.unusedSimpArgs false
set_option maxRecDepth 100000

def ieq (x y : Int) : Bool := x == y
theorem eqL_ieq : ∀ (l r : List Int), eqL ieq l r = true ↔ l = r
  | [], [] => by simp [eqL]
  | [], y :: r => by simp [eqL]
  | x :: l, [] => by simp [eqL]
  | x :: l, y :: r => by simp [eqL, ieq, eqL_ieq l r]
set_option maxHeartbeats 2000000 in
theorem sameInts_any {ok ok' : Nat → Prop} {w : World} {v u : Value} {l r : List Int} (hl : HInts ok w v l) (hr : HInts ok' w u r) :
    Calls Tryd.prog 7 #[v, u] w fun e w' => e = .returned (.bool (eqL ieq l r)) ∧ ∃ m, w' = w.drewN m := by
  obtain ⟨ao, cap, rfl, hc1, hc2, hat⟩ := hl.at
  obtain ⟨ao', cap', rfl, hd1, hd2, hat'⟩ := hr.at
  unfold maxLen at hc2 hd2
  obtain ⟨R, hR⟩ : ∃ R, R = eqL ieq l r := ⟨_, rfl⟩
  rw [← hR]
  have HR := hide hR
  clear hR hl hr
  obtain ⟨n, hn⟩ : ∃ n, n = l.length := ⟨_, rfl⟩
  obtain ⟨m, hm⟩ : ∃ m, m = r.length := ⟨_, rfl⟩
  rw [← hn] at hc1 ⊢
  rw [← hm] at hd1 ⊢
  have HN := hide hn
  have HM := hide hm
  by_cases hlen : n = m
  · subst hlen
    have hq : ((n : Int) != (n : Int)) = false := by simp
    clear hn hm
    go_enter Tryd.func7, Tryd.ntmps7
    go_wp2
    go_loopg [5] n (fun k v wr => ∃ i d, i ≤ n ∧ k = n - i ∧ v = .int .i64 (i : Nat) ∧ Hid (∀ j (h : j < l.length) (h' : j < r.length), j < i → ieq l[j] r[j] = true) ∧ wr = w.drewN d)
    case atStart => exact ⟨0, 0, Nat.zero_le _, rfl, rfl, fun j _ _ h => absurd h (Nat.not_lt_zero _), rfl⟩
    case round =>
      obtain ⟨i, d, hi, rfl, rfl, H, hW⟩ := hrel
      have HW := hide hW
      clear hW
      by_cases hlt : i < n
      · have hil : i < l.length := by have := HN.out; omega
        have hir : i < r.length := by have := HM.out; omega
        obtain ⟨b, o, rfl, hb, hc⟩ := hat i hil
        obtain ⟨b', o', rfl, hb', hc'⟩ := hat' i hir
        have e1 : wr.cell? ⟨b, o + i, none⟩ = some (.int .i64 l[i]) := by rw [HW.out]; exact hc
        have e2 : wr.cell? ⟨b', o' + i, none⟩ = some (.int .i64 r[i]) := by rw [HW.out]; exact hc'
        obtain ⟨x, hx⟩ : ∃ x, x = l[i] := ⟨_, rfl⟩
        obtain ⟨y, hy⟩ : ∃ y, y = r[i] := ⟨_, rfl⟩
        rw [← hx] at e1
        rw [← hy] at e2
        have HX := hide hx
        have HY := hide hy
        clear hc hc' hx hy
        clear hat hat'
        cases h0 : (x == y)
        · have hbad : ieq l[i] r[i] = false := by rw [← HX.out, ← HY.out]; exact h0
          have h1 : (x != y) = true := by simp [bne, h0]
          have HBAD := hide hbad
          clear hbad
          go_wp2_with fail
          go_quiet (fail)
          go_wp2
          go_ret
          exact ⟨ret_bool (by rw [HR.out, eqL_bad i hil hir HBAD.out]), _, by rw [HW.out, World.drewN_drewN]⟩
        · have hgood : ieq l[i] r[i] = true := by rw [← HX.out, ← HY.out]; exact h0
          have h1 : (x != y) = false := by simp [bne, h0]
          have HGOOD := hide hgood
          clear hgood
          go_wp2_with fail
          go_quiet (fail)
          go_wp2
          go_roundg (n - (i + 1))
          case measure => omega
          case rel => exact ⟨i + 1, _, by omega, rfl, by go_num, hide (fun j h h' hj => by
            rcases Nat.lt_or_eq_of_le (Nat.le_of_lt_succ hj) with h2 | h2
            · exact H.out j h h' h2
            · subst h2; exact HGOOD.out), by rw [HW.out, World.drewN_drewN]⟩
      · have hie : i = n := by omega
        have hge : ¬ (i : Int) < (n : Int) := by omega
        go_wp2
        go_ret
        refine ⟨ret_bool ?_, d, HW.out⟩
        rw [HR.out]
        exact (eqL_all (by rw [← HN.out, ← HM.out]) (fun j h h' => H.out j h h' (by have := HN.out; omega))).symm
  · have hq : ((n : Int) != (m : Int)) = true := by simp; omega
    clear hn hm
    go_enter Tryd.func7, Tryd.ntmps7
    go_wp2
    go_ret
    exact ⟨ret_bool (by rw [HR.out, eqL_len (by rw [← HN.out, ← HM.out]; exact hlen)]), 0, rfl⟩

theorem blk_ints {w : World} {g : Nat} {L : List Int} {t : TypeId} (h : w.heap[g]? = some (.cells (L.map (Value.int .i64)).toArray t (0, 0))) (hm : L.length ≤ maxLen) : HInts (fun i => g = i) w (.slice (some ⟨g, 0, none⟩) L.length L.length) L := by
  refine ⟨fun i => [.int .i64 (L[i]!)], ⟨_, _, rfl, Nat.le_refl _, hm, fun h0 => ⟨g, 0, rfl, rfl, lt_of h, fun i hi => ⟨rfl, fun j hj => ?_⟩⟩⟩, fun i hi => by simp [hi]⟩
  obtain rfl : j = 0 := by omega
  have := cell_of h i
  simp only [Nat.zero_add, Nat.mul_one, Nat.add_zero]
  rw [this]
  simp [hi]
def bgE : List Pu := [⟨3, 0, 3, 0⟩, ⟨1, 0, 9, 0⟩]
theorem blk_bgE {w : World} {g : Nat} (h : w.heap[g]? = some (.cells #[.int .i64 3, .int .i64 0, .int .i64 3, .int .i64 0, .int .i64 1, .int .i64 0, .int .i64 9, .int .i64 0] 36 (0, 0))) : HPu (fun _ => True) w (.slice (some ⟨g, 0, none⟩) 2 2) bgE := by
  refine ⟨fun i => if i = 0 then (Pu.mk 3 0 3 0).cs else (Pu.mk 1 0 9 0).cs, ⟨_, _, rfl, Nat.le_refl _, by unfold maxLen; decide, fun h0 => ⟨g, 0, rfl, trivial, lt_of h, fun i hi => ⟨by show (if i = 0 then (Pu.mk 3 0 3 0).cs else (Pu.mk 1 0 9 0).cs).length = 4; split <;> rfl, fun j hj => ?_⟩⟩⟩, fun i hi => ?_⟩
  · have hi2 : i < 2 := hi
    have := cell_of h (0 + i * 4 + j)
    rw [this]
    rcases (by omega : i = 0 ∨ i = 1) with rfl | rfl <;> rcases (by omega : j = 0 ∨ j = 1 ∨ j = 2 ∨ j = 3) with rfl | rfl | rfl | rfl <;> rfl
  · have hi2 : i < 2 := hi
    rcases (by omega : i = 0 ∨ i = 1) with rfl | rfl <;> rfl
theorem bg_uses : usesT [4] bgE = [3, 4] := by
  have e : usesL [4] bgE = [4, 3] := by rfl
  unfold usesT
  rw [e]
  have : [4, 3].mergeSort leB = [3, 4] := by simp [List.mergeSort, List.MergeSort.Internal.splitInTwo, List.merge, leB]
  rw [this]
  rfl
theorem bg_div : apT 4 (-7) 2 = -3 := by simp [apT, wrap64]

set_option maxHeartbeats 4000000 in
theorem begun_any (w : World) : Calls Tryd.prog 6 #[] w fun e w' => e = .returned (.bool true) ∧ Below w.heap.size w w' := by
  have hap := apply_any 4 (-7) 2 w
  rw [bg_div] at hap
  go_enter Tryd.func6, Tryd.ntmps6
  go_wp2_with fail
  refine hap.mono ?_
  rintro e w1 ⟨rfl, rfl⟩
  clear hap
  go_wp2_with fail
  obtain ⟨W, hW⟩ : ∃ W, W = (w1.alloc (.cells #[.int .i64 4] 3 (0, 0))).alloc (.cells #[.int .i64 3, .int .i64 0, .int .i64 3, .int .i64 0, .int .i64 1, .int .i64 0, .int .i64 9, .int .i64 0] 36 (0, 0)) := ⟨_, rfl⟩
  have bA : Below w1.heap.size w1 W := by rw [hW]; exact ((Below.refl _ _).alloc (Nat.le_refl _) _).alloc (by simp) _
  have K1 : W.heap[w1.heap.size]? = some (.cells #[.int .i64 4] 3 (0, 0)) := by
    rw [hW]
    exact (Below.heap_alloc _ _ _ (by simp)).trans (heap_new w1 _)
  have K2 : W.heap[w1.heap.size + 1]? = some (.cells #[.int .i64 3, .int .i64 0, .int .i64 3, .int .i64 0, .int .i64 1, .int .i64 0, .int .i64 9, .int .i64 0] 36 (0, 0)) := by
    rw [hW]
    have := heap_new (w1.alloc (.cells #[.int .i64 4] 3 (0, 0))) (.cells #[.int .i64 3, .int .i64 0, .int .i64 3, .int .i64 0, .int .i64 1, .int .i64 0, .int .i64 9, .int .i64 0] 36 (0, 0))
    simpa using this
  rw [← hW]
  clear hW
  have hu := uses_any 14 0 0 0 ((blk_ints (L := [4]) K1 (by unfold maxLen; decide)).wide (fun _ _ _ => trivial)) (blk_bgE K2) (by decide) (by decide)
  rw [bg_uses] at hu
  refine hu.mono ?_
  rintro e w2 ⟨v2, rfl, o2, b2⟩
  clear hu K1 K2
  have B2 := bA.trans (b2.mono bA.size)
  obtain ⟨a2, c2, rfl, _, _⟩ := o2.form
  go_wp2_with fail
  obtain ⟨w3, hw3⟩ : ∃ w3, w3 = w2.alloc (.cells #[.int .i64 3, .int .i64 4] 3 (0, 0)) := ⟨_, rfl⟩
  have b3 : Below w2.heap.size w2 w3 := by rw [hw3]; exact (Below.refl _ _).alloc (Nat.le_refl _) _
  have K3 : w3.heap[w2.heap.size]? = some (.cells #[.int .i64 3, .int .i64 4] 3 (0, 0)) := by rw [hw3]; exact heap_new _ _
  rw [← hw3]
  clear hw3
  have hs := sameInts_any (ints_row (o2.row)|>.under b3) (blk_ints (L := [3, 4]) K3 (by unfold maxLen; decide))
  rw [(eqL_ieq [3, 4] [3, 4]).2 rfl] at hs
  refine hs.mono ?_
  rintro e w4 ⟨rfl, m, rfl⟩
  clear hs K3 o2
  have B3 := B2.trans (b3.mono B2.size)
  have B4 : Below w1.heap.size w1 (w3.drewN m) := B3.trans ⟨rfl, rfl, rfl, Nat.le_refl _, fun _ _ => rfl⟩
  generalize w3.drewN m = w4 at B4 ⊢
  go_wp2_with fail
  obtain ⟨w5, hw5⟩ : ∃ w5, w5 = w4.alloc (.cells #[.int .i64 0] 3 (0, 0)) := ⟨_, rfl⟩
  have b5 : Below w4.heap.size w4 w5 := by rw [hw5]; exact (Below.refl _ _).alloc (Nat.le_refl _) _
  have K5 : w5.heap[w4.heap.size]? = some (.cells #[.int .i64 0] 3 (0, 0)) := by rw [hw5]; exact heap_new _ _
  rw [← hw5]
  clear hw5
  refine (check_begun K5).mono ?_
  rintro e w6 ⟨rfl, b6⟩
  have B6 := B4.trans ((b5.trans (b6.mono b5.size)).mono B4.size)
  have hfd : ∀ V : World, (Instr.field 38 (.agg #[.int .i64 16, .int .i64 (-1)]) 0).run Tryd.prog V = .ok (.int .i64 16) V := fun V => by kernel_rfl
  go_wp2
  go_ret
  exact ⟨rfl, B6⟩
end Go.Proofs.YtfhjejmadhcmnaaDoor
