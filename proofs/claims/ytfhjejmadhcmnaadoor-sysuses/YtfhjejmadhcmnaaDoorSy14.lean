/-
  DERIVED. THE WALKS of samePush and SameRule at things that are the same.
-/
import Derived.Test.YtfhjejmadhcmnaaDoorSy13
namespace Go.Proofs.YtfhjejmadhcmnaaDoor
open Go.Shelf Go.RowKit Go.Lib Go.IntWalk
set_option linter.unusedVariables false
set_option linter.unusedSimpArgs false
set_option maxRecDepth 100000

theorem belowDr {B : Nat} {w v : World} (h : Below B w v) (m : Nat) : Below B w (v.drewN m) := h.trans ⟨rfl, rfl, rfl, Nat.le_refl _, fun _ _ => rfl⟩
set_option maxHeartbeats 4000000 in
theorem samePush_same {ok ok' : Nat → Prop} {w : World} {v u : Value} {l : List Pu} (hl : HPu ok w v l) (hr : HPu ok' w u l) :
    Calls Tryd.prog 20 #[v, u] w fun e w' => e = .returned (.bool true) ∧ ∃ m, w' = w.drewN m := by
  obtain ⟨ao, cap, rfl, hc1, hc2, hat⟩ := hl.at
  obtain ⟨ao', cap', rfl, hd1, hd2, hat'⟩ := hr.at
  unfold maxLen at hc2 hd2
  clear hl hr
  obtain ⟨n, hn⟩ : ∃ n, n = l.length := ⟨_, rfl⟩
  rw [← hn] at hc1 hd1 ⊢
  have HN := hide hn
  have hq : ((n : Int) != (n : Int)) = false := by simp
  clear hn
  go_enter Tryd.func20, Tryd.ntmps20
  go_wp2
  go_loopg [5] n (fun k v wr => ∃ i d, i ≤ n ∧ k = n - i ∧ v = .int .i64 (i : Nat) ∧ wr = w.drewN d)
  case atStart => exact ⟨0, 0, Nat.zero_le _, rfl, rfl, rfl⟩
  case round =>
    obtain ⟨i, d, hi, rfl, rfl, hW⟩ := hrel
    have HW := hide hW
    clear hW
    by_cases hlt : i < n
    · have hil : i < l.length := by have := HN.out; omega
      obtain ⟨b, o, rfl, hb, q0, q1, q2, q3⟩ := hat i hil
      obtain ⟨b', o', rfl, hb', r0, r1, r2, r3⟩ := hat' i hil
      generalize l[i] = p at q0 q1 q2 q3 r0 r1 r2 r3
      have e0 : wr.cell? ⟨b, o + i * 4, none⟩ = some (.int .i64 p.op) := by rw [HW.out]; exact q0
      have e1 : wr.cell? ⟨b, o + i * 4 + 1, none⟩ = some (.int .i64 p.k) := by rw [HW.out]; exact q1
      have e2 : wr.cell? ⟨b, o + i * 4 + 2, none⟩ = some (.int .i64 p.v) := by rw [HW.out]; exact q2
      have e3 : wr.cell? ⟨b, o + i * 4 + 3, none⟩ = some (.int .i64 p.n) := by rw [HW.out]; exact q3
      have f0 : wr.cell? ⟨b', o' + i * 4, none⟩ = some (.int .i64 p.op) := by rw [HW.out]; exact r0
      have f1 : wr.cell? ⟨b', o' + i * 4 + 1, none⟩ = some (.int .i64 p.k) := by rw [HW.out]; exact r1
      have f2 : wr.cell? ⟨b', o' + i * 4 + 2, none⟩ = some (.int .i64 p.v) := by rw [HW.out]; exact r2
      have f3 : wr.cell? ⟨b', o' + i * 4 + 3, none⟩ = some (.int .i64 p.n) := by rw [HW.out]; exact r3
      clear hat hat' q0 q1 q2 q3 r0 r1 r2 r3
      go_wp2_with fail
      go_quiet (fail)
      go_wp2
      go_roundg (n - (i + 1))
      case measure => omega
      case rel => exact ⟨i + 1, _, by omega, rfl, by go_num, by rw [HW.out, World.drewN_drewN]⟩
    · have hie : i = n := by omega
      have hge : ¬ (i : Int) < (n : Int) := by omega
      go_wp2
      go_ret
      exact ⟨rfl, d, HW.out⟩

set_option maxHeartbeats 8000000 in
theorem sameRule_same {ok ok' : Nat → Prop} {w : World} {va ve ua ue : Value} {A : List Int} {E : List Pu} (op k out n : Int) (hA : HInts ok w va A) (hE : HPu ok w ve E) (hA' : HInts ok' w ua A) (hE' : HPu ok' w ue E) :
    Calls Tryd.prog 10 #[.agg #[.int .i64 op, .int .i64 k, .int .i64 out, .int .i64 n, va, ve], .agg #[.int .i64 op, .int .i64 k, .int .i64 out, .int .i64 n, ua, ue]] w fun e w' => e = .returned (.bool true) ∧ Below w.heap.size w w' := by
  obtain ⟨W, hW⟩ : ∃ W, W = (w.alloc (.cells #[.int .i64 op, .int .i64 k, .int .i64 out, .int .i64 n, va, ve] 25 (0, 0))).alloc (.cells #[.int .i64 op, .int .i64 k, .int .i64 out, .int .i64 n, ua, ue] 25 (0, 0)) := ⟨_, rfl⟩
  have bA : Below w.heap.size w W := by rw [hW]; exact ((Below.refl _ _).alloc (Nat.le_refl _) _).alloc (by simp) _
  have K1 : W.heap[w.heap.size]? = some (.cells #[.int .i64 op, .int .i64 k, .int .i64 out, .int .i64 n, va, ve] 25 (0, 0)) := by
    rw [hW]
    exact (Below.heap_alloc _ _ _ (by simp)).trans (heap_new w _)
  have K2 : W.heap[w.heap.size + 1]? = some (.cells #[.int .i64 op, .int .i64 k, .int .i64 out, .int .i64 n, ua, ue] 25 (0, 0)) := by
    rw [hW]
    have := heap_new (w.alloc (.cells #[.int .i64 op, .int .i64 k, .int .i64 out, .int .i64 n, va, ve] 25 (0, 0))) (.cells #[.int .i64 op, .int .i64 k, .int .i64 out, .int .i64 n, ua, ue] 25 (0, 0))
    simpa using this
  have h7 := sameInts_any (hA.under bA) (hA'.under bA)
  rw [(eqL_ieq A A).2 rfl] at h7
  have HE := hide hE
  have HE' := hide hE'
  obtain ⟨a1, c1, rfl, _, _, _⟩ := hA.at
  obtain ⟨a2, c2, rfl, _, _, _⟩ := hA'.at
  obtain ⟨a3, c3, rfl, _, _, _⟩ := hE.at
  obtain ⟨a4, c4, rfl, _, _, _⟩ := hE'.at
  clear hA hA' hE hE'
  go_enter Tryd.func10, Tryd.ntmps10
  go_upto_region 1 with fail
  rw [← hW]
  clear hW
  have d0 := cell_of K1 0
  have d1 := cell_of K1 1
  have d2 := cell_of K1 2
  have d3 := cell_of K1 3
  have d4 := cell_of K1 4
  have d5 := cell_of K1 5
  have g0 := cell_of K2 0
  have g1 := cell_of K2 1
  have g2 := cell_of K2 2
  have g3 := cell_of K2 3
  have g4 := cell_of K2 4
  have g5 := cell_of K2 5
  simp at d0 d1 d2 d3 d4 d5 g0 g1 g2 g3 g4 g5
  go_wp2_with fail
  refine h7.mono ?_
  rintro e w1 ⟨rfl, m1, hm1⟩
  have b1 : Below w.heap.size w w1 := by rw [hm1]; exact belowDr bA _
  have j5 : w1.cell? ⟨w.heap.size, 5, none⟩ = some (.slice a3 E.length c3) := by rw [hm1]; exact d5
  have i5 : w1.cell? ⟨w.heap.size + 1, 5, none⟩ = some (.slice a4 E.length c4) := by rw [hm1]; exact g5
  have h20 := samePush_same (HE.out.under b1) (HE'.out.under b1)
  clear d0 d1 d2 d3 d4 d5 g0 g1 g2 g3 g4 g5 hm1
  go_wp2_with fail
  refine h20.mono ?_
  rintro e w2 ⟨rfl, m2, hm2⟩
  have b2 : Below w.heap.size w w2 := by rw [hm2]; exact belowDr b1 _
  clear hm2
  go_wp2_with fail
  go_ret
  exact ⟨rfl, b2⟩
end Go.Proofs.YtfhjejmadhcmnaaDoor
