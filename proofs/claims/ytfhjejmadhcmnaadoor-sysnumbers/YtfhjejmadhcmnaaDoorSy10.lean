/-
  DERIVED. THE WALK of the law of what numbers are.
-/
import Derived.Test.YtfhjejmadhcmnaaDoorSy9
import Derived.BigQuiet
import Derived.WalkSmall
namespace Go.Proofs.YtfhjejmadhcmnaaDoor
open Go.RowKit Go.IntWalk
set_option linter.unusedVariables false
set_option linter.unusedSimpArgs false
set_option maxRecDepth 100000

theorem w64_cong {x y : Int} (h : ∃ k : Int, x = y + k * 18446744073709551616) : wrap64 x = wrap64 y := by
  obtain ⟨k, rfl⟩ := h
  unfold wrap64
  omega
theorem w64_is (x : Int) : ∃ k : Int, wrap64 x = x + k * 18446744073709551616 := by
  refine ⟨-((x + 9223372036854775808) / 18446744073709551616), ?_⟩
  unfold wrap64
  omega
theorem n_div {a b : Int} (ha : I64 a) (hb : b ≠ 0) : wrap64 (wrap64 (apT 4 a b * b) + apT 5 a b) = a := by
  have e4 : apT 4 a b = wrap64 (a.tdiv b) := by simp [apT, hb]
  have e5 : apT 5 a b = a.tmod b := by simp [apT, hb]
  rw [e4, e5]
  obtain ⟨k1, h1⟩ := w64_is (a.tdiv b)
  obtain ⟨k2, h2⟩ := w64_is (wrap64 (a.tdiv b) * b)
  have e := Int.mul_tdiv_add_tmod a b
  refine Eq.trans (w64_cong (y := a) ⟨k1 * b + k2, ?_⟩) (w64_in ha)
  rw [h2, h1, Int.add_mul, Int.add_mul, Int.mul_right_comm k1 18446744073709551616 b, Int.mul_comm (a.tdiv b) b]
  omega
theorem n_zero (a : Int) : apT 4 a 0 = 0 ∧ apT 5 a 0 = 0 := by simp [apT]
theorem n_rest {a b : Int} (hb : 0 < b) : apT 5 a b < b ∧ -b < apT 5 a b := by
  have e5 : apT 5 a b = a.tmod b := by simp [apT, show b ≠ 0 by omega]
  rw [e5]
  have hn : (a.tmod b).natAbs < b.natAbs := by
    rw [Int.natAbs_tmod]
    exact Nat.mod_lt _ (by omega)
  omega
theorem n_sign {a b : Int} (h : apT 5 a b ≠ 0) : (apT 5 a b < 0 ↔ a < 0) := by
  by_cases hb : b = 0
  · subst hb; exact absurd (n_zero a).2 h
  have e5 : apT 5 a b = a.tmod b := by simp [apT, hb]
  rw [e5] at h ⊢
  constructor
  · intro h1
    rcases (by omega : a < 0 ∨ 0 ≤ a) with h2 | h2
    · exact h2
    · have := Int.tmod_nonneg b h2; omega
  · intro h1
    have := Int.tmod_nonneg b (a := -a) (by omega)
    rw [Int.neg_tmod] at this
    omega
theorem n_add {a b : Int} (ha : I64 a) : apT 2 (apT 1 a b) b = a := by
  simp [apT]
  unfold wrap64; unfold I64 at ha
  omega
theorem n_neg {a : Int} (ha : I64 a) : apT 13 (apT 13 a 0) 0 = a := by
  simp [apT]
  unfold wrap64; unfold I64 at ha
  omega
theorem n_off {a : Int} (ha : I64 a) : apT 1 a (apT 13 a 0) = 0 := by
  simp [apT]
  unfold wrap64; unfold I64 at ha
  omega

theorem belowD {B : Nat} {w v : World} (h : Below B w v) (m : Nat) : Below B w (v.drewN m) := h.trans ⟨rfl, rfl, rfl, Nat.le_refl _, fun _ _ => rfl⟩
set_option maxHeartbeats 1000000 in
theorem closure13 {V : World} {p q : Nat} {a b : Int} (k : Int) (hp : V.cell? ⟨p, 0, none⟩ = some (.int .i64 a)) (hq : V.cell? ⟨q, 0, none⟩ = some (.int .i64 b)) :
    Calls Tryd.prog 13 #[.int .i64 k, .pointer (some ⟨p, 0, none⟩), .pointer (some ⟨q, 0, none⟩)] V fun e w' => e = .returned (.int .i64 (apT k a b)) ∧ w' = V := by
  have h11 := apply_any k a b V
  go_enter Tryd.func13, Tryd.ntmps13
  go_wp2_with (go_at_call 11; refine h11.mono ?_; rintro e w' ⟨rfl, rfl⟩)
  go_ret
  exact ⟨rfl, rfl⟩

set_option maxHeartbeats 16000000 in
theorem numbers_walk (a b : Int) (w : World) (ha : I64 a) (hb : I64 b) : Calls Tryd.prog 5 #[.int .i64 a, .int .i64 b] w fun e w' => e = .returned (.bool true) ∧ Below w.heap.size w w' := by
  obtain ⟨W, hW⟩ : ∃ W, W = (w.alloc (.cells #[.int .i64 a] 2 (0, 0))).alloc (.cells #[.int .i64 b] 2 (0, 0)) := ⟨_, rfl⟩
  have bA : Below w.heap.size w W := by rw [hW]; exact ((Below.refl _ _).alloc (Nat.le_refl _) _).alloc (by simp) _
  have K1 : W.heap[w.heap.size]? = some (.cells #[.int .i64 a] 2 (0, 0)) := by
    rw [hW]
    exact (Below.heap_alloc _ _ _ (by simp)).trans (heap_new w _)
  have K2 : W.heap[w.heap.size + 1]? = some (.cells #[.int .i64 b] 2 (0, 0)) := by
    rw [hW]
    have := heap_new (w.alloc (.cells #[.int .i64 a] 2 (0, 0))) (.cells #[.int .i64 b] 2 (0, 0))
    simpa using this
  have h6 := begun_any W
  have e13 : ∀ args w, (callFunc 13 args).run Tryd.prog w = .ok (.enter 13 args) w := enters_of Tryd.func13 (by kernel_rfl) rfl
  go_enter Tryd.func5, Tryd.ntmps5
  go_upto_region 1 with fail
  rw [← hW]
  clear hW
  go_wp2_with fail
  refine h6.mono ?_
  rintro e w1 ⟨rfl, b1⟩
  clear h6
  have B1 := bA.trans (b1.mono bA.size)
  have K1 := (b1.block _ (lt_of K1)).trans K1
  have K2 := (b1.block _ (lt_of K2)).trans K2
  have c1 := cell_of K1 0
  have c2 := cell_of K2 0
  simp at c1 c2
  have HC : Hid (∀ V : World, V.cell? ⟨w.heap.size, 0, none⟩ = some (.int .i64 a) → V.cell? ⟨w.heap.size + 1, 0, none⟩ = some (.int .i64 b) → ∀ k, Calls Tryd.prog 13 #[.int .i64 k, .pointer (some ⟨w.heap.size, 0, none⟩), .pointer (some ⟨w.heap.size + 1, 0, none⟩)] V fun e w' => e = .returned (.int .i64 (apT k a b)) ∧ w' = V) := hide (fun V h1 h2 k => closure13 k h1 h2)
  have HA := hide ha
  have HB := hide hb
  clear bA b1 K1 K2 ha hb
  obtain ⟨q, hq⟩ : ∃ q, q = apT 4 a b := ⟨_, rfl⟩
  obtain ⟨r, hr⟩ : ∃ r, r = apT 5 a b := ⟨_, rfl⟩
  obtain ⟨lo, hlo⟩ : ∃ lo, lo = apT 6 a b := ⟨_, rfl⟩
  obtain ⟨hi, hhi⟩ : ∃ hi, hi = apT 7 a b := ⟨_, rfl⟩
  obtain ⟨ad, had⟩ : ∃ ad, ad = apT 1 a b := ⟨_, rfl⟩
  obtain ⟨ng, hng⟩ : ∃ ng, ng = apT 13 a 0 := ⟨_, rfl⟩
  obtain ⟨x, hx⟩ : ∃ x, x = apT 14 a 0 := ⟨_, rfl⟩
  obtain ⟨y, hy⟩ : ∃ y, y = apT 14 b 0 := ⟨_, rfl⟩
  obtain ⟨an, han⟩ : ∃ an, an = apT 10 a b := ⟨_, rfl⟩
  obtain ⟨oo, hoo⟩ : ∃ oo, oo = apT 11 a b := ⟨_, rfl⟩
  obtain ⟨xo, hxo⟩ : ∃ xo, xo = apT 12 a b := ⟨_, rfl⟩
  obtain ⟨ls, hls⟩ : ∃ ls, ls = apT 8 a b := ⟨_, rfl⟩
  obtain ⟨eq, heq⟩ : ∃ eq, eq = apT 9 a b := ⟨_, rfl⟩
  obtain ⟨lt, hlt⟩ : ∃ lt, lt = apT 8 b a := ⟨_, rfl⟩
  have HD : Hid (∀ V : World, V.cell? ⟨w.heap.size, 0, none⟩ = some (.int .i64 a) → V.cell? ⟨w.heap.size + 1, 0, none⟩ = some (.int .i64 b) → (Calls Tryd.prog 13 #[.int .i64 4, .pointer (some ⟨w.heap.size, 0, none⟩), .pointer (some ⟨w.heap.size + 1, 0, none⟩)] V fun e w' => e = .returned (.int .i64 q) ∧ V = w') ∧ (Calls Tryd.prog 13 #[.int .i64 5, .pointer (some ⟨w.heap.size, 0, none⟩), .pointer (some ⟨w.heap.size + 1, 0, none⟩)] V fun e w' => e = .returned (.int .i64 r) ∧ V = w') ∧ (Calls Tryd.prog 13 #[.int .i64 6, .pointer (some ⟨w.heap.size, 0, none⟩), .pointer (some ⟨w.heap.size + 1, 0, none⟩)] V fun e w' => e = .returned (.int .i64 lo) ∧ V = w') ∧ (Calls Tryd.prog 13 #[.int .i64 7, .pointer (some ⟨w.heap.size, 0, none⟩), .pointer (some ⟨w.heap.size + 1, 0, none⟩)] V fun e w' => e = .returned (.int .i64 hi) ∧ V = w') ∧ (Calls Tryd.prog 13 #[.int .i64 1, .pointer (some ⟨w.heap.size, 0, none⟩), .pointer (some ⟨w.heap.size + 1, 0, none⟩)] V fun e w' => e = .returned (.int .i64 ad) ∧ V = w') ∧ (Calls Tryd.prog 13 #[.int .i64 10, .pointer (some ⟨w.heap.size, 0, none⟩), .pointer (some ⟨w.heap.size + 1, 0, none⟩)] V fun e w' => e = .returned (.int .i64 an) ∧ V = w') ∧ (Calls Tryd.prog 13 #[.int .i64 11, .pointer (some ⟨w.heap.size, 0, none⟩), .pointer (some ⟨w.heap.size + 1, 0, none⟩)] V fun e w' => e = .returned (.int .i64 oo) ∧ V = w') ∧ (Calls Tryd.prog 13 #[.int .i64 12, .pointer (some ⟨w.heap.size, 0, none⟩), .pointer (some ⟨w.heap.size + 1, 0, none⟩)] V fun e w' => e = .returned (.int .i64 xo) ∧ V = w') ∧ (Calls Tryd.prog 13 #[.int .i64 8, .pointer (some ⟨w.heap.size, 0, none⟩), .pointer (some ⟨w.heap.size + 1, 0, none⟩)] V fun e w' => e = .returned (.int .i64 ls) ∧ V = w') ∧ (Calls Tryd.prog 13 #[.int .i64 9, .pointer (some ⟨w.heap.size, 0, none⟩), .pointer (some ⟨w.heap.size + 1, 0, none⟩)] V fun e w' => e = .returned (.int .i64 eq) ∧ V = w')) := hide (fun V h1 h2 => ⟨by rw [hq]; exact (HC.out V h1 h2 4).mono (fun e w' h => ⟨h.1, h.2.symm⟩), by rw [hr]; exact (HC.out V h1 h2 5).mono (fun e w' h => ⟨h.1, h.2.symm⟩), by rw [hlo]; exact (HC.out V h1 h2 6).mono (fun e w' h => ⟨h.1, h.2.symm⟩), by rw [hhi]; exact (HC.out V h1 h2 7).mono (fun e w' h => ⟨h.1, h.2.symm⟩), by rw [had]; exact (HC.out V h1 h2 1).mono (fun e w' h => ⟨h.1, h.2.symm⟩), by rw [han]; exact (HC.out V h1 h2 10).mono (fun e w' h => ⟨h.1, h.2.symm⟩), by rw [hoo]; exact (HC.out V h1 h2 11).mono (fun e w' h => ⟨h.1, h.2.symm⟩), by rw [hxo]; exact (HC.out V h1 h2 12).mono (fun e w' h => ⟨h.1, h.2.symm⟩), by rw [hls]; exact (HC.out V h1 h2 8).mono (fun e w' h => ⟨h.1, h.2.symm⟩), by rw [heq]; exact (HC.out V h1 h2 9).mono (fun e w' h => ⟨h.1, h.2.symm⟩)⟩)
  have f1 : b = 0 → q = 0 ∧ r = 0 := fun h => by rw [hq, hr, h]; exact n_zero a
  have f2 : b ≠ 0 → wrap64 (wrap64 (q * b) + r) = a := fun h => by rw [hq, hr]; exact n_div HA.out h
  have f3 : 0 < b → r < b ∧ -b < r := fun h => by rw [hr]; exact n_rest h
  have f4 : r ≠ 0 → (r < 0 ↔ a < 0) := fun h => by rw [hr] at h ⊢; exact n_sign h
  have f5 : lo = min a b ∧ hi = max a b := by rw [hlo, hhi]; simp [apT]
  have f6 : x = tr (decide (a = 0)) ∧ y = tr (decide (b = 0)) := by rw [hx, hy]; simp [apT]
  have f7 : an = tr (decide (a ≠ 0 ∧ b ≠ 0)) ∧ oo = tr (decide (a ≠ 0 ∨ b ≠ 0)) ∧ xo = tr (decide (¬ (a = 0 ↔ b = 0))) := by rw [han, hoo, hxo]; simp [apT]
  have f8 : ls = tr (decide (a < b)) ∧ eq = tr (decide (a = b)) ∧ lt = tr (decide (b < a)) := by rw [hls, heq, hlt]; simp [apT]
  have s1 : ∀ V : World, Calls Tryd.prog 11 #[.int .i64 2, .int .i64 ad, .int .i64 b] V fun e w' => e = .returned (.int .i64 a) ∧ ∃ m, w' = V.drewN m := fun V => (apply_any 2 ad b V).mono (fun e w' h => ⟨by rw [h.1, had, n_add HA.out], 0, h.2⟩)
  have s2 : ∀ V : World, Calls Tryd.prog 11 #[.int .i64 13, .int .i64 a, .int .i64 0] V fun e w' => e = .returned (.int .i64 ng) ∧ ∃ m, w' = V.drewN m := fun V => (apply_any 13 a 0 V).mono (fun e w' h => ⟨by rw [h.1, hng], 0, h.2⟩)
  have s3 : ∀ V : World, Calls Tryd.prog 11 #[.int .i64 13, .int .i64 ng, .int .i64 0] V fun e w' => e = .returned (.int .i64 a) ∧ ∃ m, w' = V.drewN m := fun V => (apply_any 13 ng 0 V).mono (fun e w' h => ⟨by rw [h.1, hng, n_neg HA.out], 0, h.2⟩)
  have s4 : ∀ V : World, Calls Tryd.prog 11 #[.int .i64 1, .int .i64 a, .int .i64 ng] V fun e w' => e = .returned (.int .i64 0) ∧ ∃ m, w' = V.drewN m := fun V => (apply_any 1 a ng V).mono (fun e w' h => ⟨by rw [h.1, hng, n_off HA.out], 0, h.2⟩)
  have s5 : ∀ V : World, Calls Tryd.prog 11 #[.int .i64 14, .int .i64 a, .int .i64 0] V fun e w' => e = .returned (.int .i64 x) ∧ ∃ m, w' = V.drewN m := fun V => (apply_any 14 a 0 V).mono (fun e w' h => ⟨by rw [h.1, hx], 0, h.2⟩)
  have s6 : ∀ V : World, Calls Tryd.prog 11 #[.int .i64 14, .int .i64 b, .int .i64 0] V fun e w' => e = .returned (.int .i64 y) ∧ ∃ m, w' = V.drewN m := fun V => (apply_any 14 b 0 V).mono (fun e w' h => ⟨by rw [h.1, hy], 0, h.2⟩)
  have s7 : ∀ V : World, Calls Tryd.prog 11 #[.int .i64 8, .int .i64 b, .int .i64 a] V fun e w' => e = .returned (.int .i64 lt) ∧ V = w' := fun V => (apply_any 8 b a V).mono (fun e w' h => ⟨by rw [h.1, hlt], h.2.symm⟩)
  have F := hide (And.intro f1 (And.intro f2 (And.intro f3 (And.intro f4 (And.intro f5 (And.intro f6 (And.intro f7 f8)))))))
  have S := hide (And.intro s1 (And.intro s2 (And.intro s3 (And.intro s4 (And.intro s5 (And.intro s6 s7))))))
  clear f1 f2 f3 f4 f5 f6 f7 f8 s1 s2 s3 s4 s5 s6 s7 hq hr hlo hhi had hng hx hy han hoo hxo hls heq hlt HC
  go_upto_region 5 with (first | (go_at_call 13; refine ((HD.out w1 c1 c2).1).mono ?_; rintro e w' ⟨rfl, rfl⟩) | (go_at_call 13; refine ((HD.out w1 c1 c2).2.1).mono ?_; rintro e w' ⟨rfl, rfl⟩))
  go_cut [43] (fun v wd => v = .bool false ∧ wd.cell? ⟨w.heap.size, 0, none⟩ = some (.int .i64 a) ∧ wd.cell? ⟨w.heap.size + 1, 0, none⟩ = some (.int .i64 b) ∧ Below w.heap.size w wd)
  case first =>
    as_aux_lemma =>
      by_cases h0 : b = 0
      · have g0 : (b == 0) = true := by simpa using h0
        have g1 : (q != 0) = false := by simp [(F.out.1 h0).1]
        have g2 : (r != 0) = false := by simp [(F.out.1 h0).2]
        have g3 : (b != 0) = false := by simpa using h0
        clear h0
        go_wp2_with fail
        go_meet
        case rel => exact ⟨rfl, c1, c2, B1⟩
      · have g0 : (b == 0) = false := by simpa using h0
        have g3 : (b != 0) = true := by simpa using h0
        have g1 : (wrap64 (wrap64 (q * b) + r) != a) = false := by simp [F.out.2.1 h0]
        clear h0
        go_wp2_with fail
        go_meet
        case rel => exact ⟨rfl, c1, c2, B1⟩
  case rest =>
    obtain ⟨rfl, d1, d2, bN⟩ := hcut
    obtain ⟨w2, hwn⟩ : ∃ w2, w2 = wc := ⟨_, rfl⟩
    rw [← hwn] at d1 d2 bN ⊢
    clear hwn c1 c2 B1
    have c1 := d1
    have c2 := d2
    have B1 := bN
    clear d1 d2 bN
    go_upto_region 7 with fail
    go_cut [67] (fun v wd => v = .bool false ∧ wd.cell? ⟨w.heap.size, 0, none⟩ = some (.int .i64 a) ∧ wd.cell? ⟨w.heap.size + 1, 0, none⟩ = some (.int .i64 b) ∧ Below w.heap.size w wd)
    case first =>
      as_aux_lemma =>
        have hrs : r = 0 ∨ (r < 0 ∧ a < 0) ∨ (0 < r ∧ ¬ a < 0) := by
          have := F.out.2.2.2.1
          by_cases hz : r = 0
          · exact .inl hz
          · have := this hz
            omega
        have hbs : (0 < b ∧ ¬ b ≤ r ∧ ¬ r ≤ wrap64 (-b)) ∨ ¬ 0 < b := by
          by_cases hz : 0 < b
          · have := F.out.2.2.1 hz
            have hb2 := HB.out
            unfold I64 at hb2
            refine .inl ⟨hz, by omega, ?_⟩
            rw [w64_in (by unfold I64; omega)]
            omega
          · exact .inr hz
        rcases hbs with ⟨k1, k2, k3⟩ | k1
        all_goals rcases hrs with k4 | ⟨k4, k5⟩ | ⟨k4, k5⟩
        · have k6 : (r != 0) = false := by simp [k4]
          clear k4
          go_wp2_with fail
          go_meet
          case rel => exact ⟨rfl, c1, c2, B1⟩
        · have k6 : (r != 0) = true := by simp; omega
          go_wp2_with fail
          go_meet
          case rel => exact ⟨rfl, c1, c2, B1⟩
        · have k6 : (r != 0) = true := by simp; omega
          have k7 : ¬ r < 0 := by omega
          go_wp2_with fail
          go_meet
          case rel => exact ⟨rfl, c1, c2, B1⟩
        · have k6 : (r != 0) = false := by simp [k4]
          clear k4
          go_wp2_with fail
          go_meet
          case rel => exact ⟨rfl, c1, c2, B1⟩
        · have k6 : (r != 0) = true := by simp; omega
          go_wp2_with fail
          go_meet
          case rel => exact ⟨rfl, c1, c2, B1⟩
        · have k6 : (r != 0) = true := by simp; omega
          have k7 : ¬ r < 0 := by omega
          go_wp2_with fail
          go_meet
          case rel => exact ⟨rfl, c1, c2, B1⟩
    case rest =>
      obtain ⟨rfl, d1, d2, bN⟩ := hcut
      obtain ⟨w3, hwn⟩ : ∃ w3, w3 = wc := ⟨_, rfl⟩
      rw [← hwn] at d1 d2 bN ⊢
      clear hwn c1 c2 B1
      have c1 := d1
      have c2 := d2
      have B1 := bN
      clear d1 d2 bN
      go_upto_region 10 with (first | (go_at_call 13; refine ((HD.out w3 c1 c2).2.2.1).mono ?_; rintro e w' ⟨rfl, rfl⟩) | (go_at_call 13; refine ((HD.out w3 c1 c2).2.2.2.1).mono ?_; rintro e w' ⟨rfl, rfl⟩))
      go_cut [114] (fun v wd => v = .bool false ∧ wd.cell? ⟨w.heap.size, 0, none⟩ = some (.int .i64 a) ∧ wd.cell? ⟨w.heap.size + 1, 0, none⟩ = some (.int .i64 b) ∧ Below w.heap.size w wd)
      case first =>
        as_aux_lemma =>
          have h5 := F.out.2.2.2.2.1
          rcases (by omega : a < b ∨ a = b ∨ b < a) with k1 | k1 | k1
          · have e1 : lo = a := by omega
            have e2 : hi = b := by omega
            have g1 : ¬ hi < lo := by omega
            have g2 : (lo != a) = false := by simp [e1]
            have g3 : (hi != a) = true := by simp; omega
            have g4 : (hi != b) = false := by simp [e2]
            have g5 : (lo == a) = true := by simp [e1]
            have g6 : (lo == b) = false := by simp; omega
            clear e1 e2 h5
            go_wp2_with fail
            go_meet
            case rel => exact ⟨rfl, c1, c2, B1⟩
          · have e1 : lo = a := by omega
            have e2 : hi = a := by omega
            have g1 : ¬ hi < lo := by omega
            have g2 : (lo != a) = false := by simp [e1]
            have g3 : (hi != a) = false := by simp [e2]
            have g4 : (hi != b) = false := by simp; omega
            have g5 : (lo == a) = true := by simp [e1]
            have g6 : (lo == b) = true := by simp; omega
            clear e1 e2 h5 k1
            go_wp2_with fail
            go_meet
            case rel => exact ⟨rfl, c1, c2, B1⟩
          · have e1 : lo = b := by omega
            have e2 : hi = a := by omega
            have g1 : ¬ hi < lo := by omega
            have g2 : (lo != a) = true := by simp; omega
            have g3 : (hi != a) = false := by simp [e2]
            have g4 : (lo != b) = false := by simp [e1]
            have g5 : (lo == a) = false := by simp; omega
            have g6 : (lo == b) = true := by simp [e1]
            clear e1 e2 h5
            go_wp2_with fail
            go_meet
            case rel => exact ⟨rfl, c1, c2, B1⟩
      case rest =>
        obtain ⟨rfl, d1, d2, bN⟩ := hcut
        obtain ⟨w4, hwn⟩ : ∃ w4, w4 = wc := ⟨_, rfl⟩
        rw [← hwn] at d1 d2 bN ⊢
        clear hwn c1 c2 B1
        have c1 := d1
        have c2 := d2
        have B1 := bN
        clear d1 d2 bN
        go_upto_region 12 with fail
        go_cut [134] (fun v134 wd => v134 = .bool false ∧ wd.cell? ⟨w.heap.size, 0, none⟩ = some (.int .i64 a) ∧ wd.cell? ⟨w.heap.size + 1, 0, none⟩ = some (.int .i64 b) ∧ Below w.heap.size w wd)
        case first =>
          as_aux_lemma =>
            obtain ⟨s1, s2, s3, s4, _⟩ := S.out
            have p1 : ∀ V : World, V.cell? ⟨w.heap.size, 0, none⟩ = some (.int .i64 a) → V.cell? ⟨w.heap.size + 1, 0, none⟩ = some (.int .i64 b) → Calls Tryd.prog 13 #[.int .i64 1, .pointer (some ⟨w.heap.size, 0, none⟩), .pointer (some ⟨w.heap.size + 1, 0, none⟩)] V fun e w' => e = .returned (.int .i64 ad) ∧ ∃ m, w' = V.drewN m := fun V h1 h2 => ((HD.out V h1 h2).2.2.2.2.1).mono (fun e w' h => ⟨h.1, 0, h.2.symm⟩)
            have gz : (a != a) = false := by simp
            refine wp_region_late (fun w' => w'.cell? ⟨w.heap.size, 0, none⟩ = some (.int .i64 a) ∧ w'.cell? ⟨w.heap.size + 1, 0, none⟩ = some (.int .i64 b) ∧ Below w.heap.size w w') (fun _ => false) (by kernel_rfl) ?_
            have hH : w4.drew.cell? ⟨w.heap.size, 0, none⟩ = some (.int .i64 a) ∧ w4.drew.cell? ⟨w.heap.size + 1, 0, none⟩ = some (.int .i64 b) ∧ Below w.heap.size w w4.drew := ⟨c1, c2, B1.drew⟩
            generalize w4.drew = wd at hH ⊢
            refine' wpAnyL_take (i := 0) (oi := ⟨some 115, _, _, _, _, _⟩) (v := _) rfl (by kernel_rfl) (by kernel_rfl) (by kernel_rfl) (by kernel_rfl) (fun _ _ _ h => h) hH (by rfl) ?hyv ?onw
            case hyv =>
              intro wz hSw
              obtain ⟨z1, z2, _⟩ := hSw
              go_simp
              try rfl
            case onw =>
              try simp only [Act.put, List.setIfInBounds_toArray, List.set_cons_zero, List.set_cons_succ]
              refine' wpAnyL_take (i := 2) (oi := ⟨some 117, _, _, _, _, _⟩) (v := _) rfl (by kernel_rfl) (by kernel_rfl) (by kernel_rfl) (by kernel_rfl) (fun _ _ _ h => h) hH (by rfl) ?hyv ?onw
              case hyv =>
                intro wz hSw
                obtain ⟨z1, z2, _⟩ := hSw
                go_simp
                try rfl
              case onw =>
                try simp only [Act.put, List.setIfInBounds_toArray, List.set_cons_zero, List.set_cons_succ]
                refine' wpAnyL_take (i := 4) (oi := ⟨some 119, _, _, _, _, _⟩) (v := _) rfl (by kernel_rfl) (by kernel_rfl) (by kernel_rfl) (by kernel_rfl) (fun _ _ _ h => h) hH (by rfl) ?hyv ?onw
                case hyv =>
                  intro wz hSw
                  obtain ⟨z1, z2, _⟩ := hSw
                  go_simp
                  try rfl
                case onw =>
                  try simp only [Act.put, List.setIfInBounds_toArray, List.set_cons_zero, List.set_cons_succ]
                  refine wpAnyL_one (i := 1) (o := _) rfl (by kernel_rfl) (by rfl) (fun K hK => ?_)
                  go_simp
                  refine (p1 wd hH.1 hH.2.1).mono ?_
                  rintro e v1 ⟨rfl, m1, hm1⟩
                  have hH1 : v1.cell? ⟨w.heap.size, 0, none⟩ = some (.int .i64 a) ∧ v1.cell? ⟨w.heap.size + 1, 0, none⟩ = some (.int .i64 b) ∧ Below w.heap.size w v1 := by rw [hm1]; exact ⟨hH.1, hH.2.1, belowD hH.2.2 _⟩
                  clear hm1
                  refine hK.out _ _ (fun _ => hH1) ?_
                  clear hK K
                  try simp only [Act.put, List.setIfInBounds_toArray, List.set_cons_zero, List.set_cons_succ]
                  refine wpAnyL_one (i := 3) (o := _) rfl (by kernel_rfl) (by rfl) (fun K hK => ?_)
                  go_simp
                  refine (s1 v1).mono ?_
                  rintro e v2 ⟨rfl, m2, hm2⟩
                  have hH2 : v2.cell? ⟨w.heap.size, 0, none⟩ = some (.int .i64 a) ∧ v2.cell? ⟨w.heap.size + 1, 0, none⟩ = some (.int .i64 b) ∧ Below w.heap.size w v2 := by rw [hm2]; exact ⟨hH1.1, hH1.2.1, belowD hH1.2.2 _⟩
                  clear hm2
                  refine hK.out _ _ (fun _ => hH2) ?_
                  clear hK K
                  try simp only [Act.put, List.setIfInBounds_toArray, List.set_cons_zero, List.set_cons_succ]
                  refine' wpAnyL_take (i := 5) (oi := ⟨some 120, _, _, _, _, _⟩) (v := _) rfl (by kernel_rfl) (by kernel_rfl) (by kernel_rfl) (by kernel_rfl) (fun _ _ _ h => h) hH2 (by rfl) ?hyv ?onw
                  case hyv =>
                    intro wz hSw
                    obtain ⟨z1, z2, _⟩ := hSw
                    go_simp
                    try rfl
                  case onw =>
                    try simp only [Act.put, List.setIfInBounds_toArray, List.set_cons_zero, List.set_cons_succ]
                    refine' wpAnyL_take (i := 6) (oi := ⟨some 121, _, _, _, _, _⟩) (v := _) rfl (by kernel_rfl) (by kernel_rfl) (by kernel_rfl) (by kernel_rfl) (fun _ _ _ h => h) hH2 (by rfl) ?hyv ?onw
                    case hyv =>
                      intro wz hSw
                      obtain ⟨z1, z2, _⟩ := hSw
                      go_simp
                      try rfl
                    case onw =>
                      try simp only [Act.put, List.setIfInBounds_toArray, List.set_cons_zero, List.set_cons_succ]
                      refine' wpAnyL_take (i := 7) (oi := ⟨some 122, _, _, _, _, _⟩) (v := _) rfl (by kernel_rfl) (by kernel_rfl) (by kernel_rfl) (by kernel_rfl) (fun _ _ _ h => h) hH2 (by rfl) ?hyv ?onw
                      case hyv =>
                        intro wz hSw
                        obtain ⟨z1, z2, _⟩ := hSw
                        go_simp
                        try rfl
                      case onw =>
                        try simp only [Act.put, List.setIfInBounds_toArray, List.set_cons_zero, List.set_cons_succ]
                        refine' wpAnyL_take (i := 10) (oi := ⟨some 125, _, _, _, _, _⟩) (v := _) rfl (by kernel_rfl) (by kernel_rfl) (by kernel_rfl) (by kernel_rfl) (fun _ _ _ h => h) hH2 (by rfl) ?hyv ?onw
                        case hyv =>
                          intro wz hSw
                          obtain ⟨z1, z2, _⟩ := hSw
                          go_simp
                          try rfl
                        case onw =>
                          try simp only [Act.put, List.setIfInBounds_toArray, List.set_cons_zero, List.set_cons_succ]
                          refine wpAnyL_one (i := 8) (o := _) rfl (by kernel_rfl) (by rfl) (fun K hK => ?_)
                          go_simp
                          refine (s2 v2).mono ?_
                          rintro e v3 ⟨rfl, m3, hm3⟩
                          have hH3 : v3.cell? ⟨w.heap.size, 0, none⟩ = some (.int .i64 a) ∧ v3.cell? ⟨w.heap.size + 1, 0, none⟩ = some (.int .i64 b) ∧ Below w.heap.size w v3 := by rw [hm3]; exact ⟨hH2.1, hH2.2.1, belowD hH2.2.2 _⟩
                          clear hm3
                          refine hK.out _ _ (fun _ => hH3) ?_
                          clear hK K
                          try simp only [Act.put, List.setIfInBounds_toArray, List.set_cons_zero, List.set_cons_succ]
                          refine wpAnyL_one (i := 9) (o := _) rfl (by kernel_rfl) (by rfl) (fun K hK => ?_)
                          go_simp
                          refine (s3 v3).mono ?_
                          rintro e v4 ⟨rfl, m4, hm4⟩
                          have hH4 : v4.cell? ⟨w.heap.size, 0, none⟩ = some (.int .i64 a) ∧ v4.cell? ⟨w.heap.size + 1, 0, none⟩ = some (.int .i64 b) ∧ Below w.heap.size w v4 := by rw [hm4]; exact ⟨hH3.1, hH3.2.1, belowD hH3.2.2 _⟩
                          clear hm4
                          refine hK.out _ _ (fun _ => hH4) ?_
                          clear hK K
                          try simp only [Act.put, List.setIfInBounds_toArray, List.set_cons_zero, List.set_cons_succ]
                          refine' wpAnyL_take (i := 11) (oi := ⟨some 126, _, _, _, _, _⟩) (v := _) rfl (by kernel_rfl) (by kernel_rfl) (by kernel_rfl) (by kernel_rfl) (fun _ _ _ h => h) hH4 (by rfl) ?hyv ?onw
                          case hyv =>
                            intro wz hSw
                            obtain ⟨z1, z2, _⟩ := hSw
                            go_simp
                            try rfl
                          case onw =>
                            try simp only [Act.put, List.setIfInBounds_toArray, List.set_cons_zero, List.set_cons_succ]
                            refine' wpAnyL_take (i := 12) (oi := ⟨some 127, _, _, _, _, _⟩) (v := _) rfl (by kernel_rfl) (by kernel_rfl) (by kernel_rfl) (by kernel_rfl) (fun _ _ _ h => h) hH4 (by rfl) ?hyv ?onw
                            case hyv =>
                              intro wz hSw
                              obtain ⟨z1, z2, _⟩ := hSw
                              go_simp
                              try rfl
                            case onw =>
                              try simp only [Act.put, List.setIfInBounds_toArray, List.set_cons_zero, List.set_cons_succ]
                              refine' wpAnyL_take (i := 13) (oi := ⟨some 128, _, _, _, _, _⟩) (v := _) rfl (by kernel_rfl) (by kernel_rfl) (by kernel_rfl) (by kernel_rfl) (fun _ _ _ h => h) hH4 (by rfl) ?hyv ?onw
                              case hyv =>
                                intro wz hSw
                                obtain ⟨z1, z2, _⟩ := hSw
                                go_simp
                                try rfl
                              case onw =>
                                try simp only [Act.put, List.setIfInBounds_toArray, List.set_cons_zero, List.set_cons_succ]
                                refine' wpAnyL_take (i := 14) (oi := ⟨some 129, _, _, _, _, _⟩) (v := _) rfl (by kernel_rfl) (by kernel_rfl) (by kernel_rfl) (by kernel_rfl) (fun _ _ _ h => h) hH4 (by rfl) ?hyv ?onw
                                case hyv =>
                                  intro wz hSw
                                  obtain ⟨z1, z2, _⟩ := hSw
                                  go_simp
                                  try rfl
                                case onw =>
                                  try simp only [Act.put, List.setIfInBounds_toArray, List.set_cons_zero, List.set_cons_succ]
                                  refine' wpAnyL_take (i := 15) (oi := ⟨some 130, _, _, _, _, _⟩) (v := _) rfl (by kernel_rfl) (by kernel_rfl) (by kernel_rfl) (by kernel_rfl) (fun _ _ _ h => h) hH4 (by rfl) ?hyv ?onw
                                  case hyv =>
                                    intro wz hSw
                                    obtain ⟨z1, z2, _⟩ := hSw
                                    go_simp
                                    try rfl
                                  case onw =>
                                    try simp only [Act.put, List.setIfInBounds_toArray, List.set_cons_zero, List.set_cons_succ]
                                    refine wpAnyL_one (i := 16) (o := _) rfl (by kernel_rfl) (by rfl) (fun K hK => ?_)
                                    go_simp
                                    refine (s2 v4).mono ?_
                                    rintro e v5 ⟨rfl, m5, hm5⟩
                                    have hH5 : v5.cell? ⟨w.heap.size, 0, none⟩ = some (.int .i64 a) ∧ v5.cell? ⟨w.heap.size + 1, 0, none⟩ = some (.int .i64 b) ∧ Below w.heap.size w v5 := by rw [hm5]; exact ⟨hH4.1, hH4.2.1, belowD hH4.2.2 _⟩
                                    clear hm5
                                    refine hK.out _ _ (fun _ => hH5) ?_
                                    clear hK K
                                    try simp only [Act.put, List.setIfInBounds_toArray, List.set_cons_zero, List.set_cons_succ]
                                    refine wpAnyL_one (i := 17) (o := _) rfl (by kernel_rfl) (by rfl) (fun K hK => ?_)
                                    go_simp
                                    refine (s4 v5).mono ?_
                                    rintro e v6 ⟨rfl, m6, hm6⟩
                                    have hH6 : v6.cell? ⟨w.heap.size, 0, none⟩ = some (.int .i64 a) ∧ v6.cell? ⟨w.heap.size + 1, 0, none⟩ = some (.int .i64 b) ∧ Below w.heap.size w v6 := by rw [hm6]; exact ⟨hH5.1, hH5.2.1, belowD hH5.2.2 _⟩
                                    clear hm6
                                    refine hK.out _ _ (fun _ => hH6) ?_
                                    clear hK K
                                    try simp only [Act.put, List.setIfInBounds_toArray, List.set_cons_zero, List.set_cons_succ]
                                    refine' wpAnyL_take (i := 18) (oi := ⟨some 133, _, _, _, _, _⟩) (v := _) rfl (by kernel_rfl) (by kernel_rfl) (by kernel_rfl) (by kernel_rfl) (fun _ _ _ h => h) hH6 (by rfl) ?hyv ?onw
                                    case hyv =>
                                      intro wz hSw
                                      obtain ⟨z1, z2, _⟩ := hSw
                                      go_simp
                                      try rfl
                                    case onw =>
                                      try simp only [Act.put, List.setIfInBounds_toArray, List.set_cons_zero, List.set_cons_succ]
                                      refine' wpAnyL_take (i := 19) (oi := ⟨some 134, _, _, _, _, _⟩) (v := _) rfl (by kernel_rfl) (by kernel_rfl) (by kernel_rfl) (by kernel_rfl) (fun _ _ _ h => h) hH6 (by rfl) ?hyv ?onw
                                      case hyv =>
                                        intro wz hSw
                                        obtain ⟨z1, z2, _⟩ := hSw
                                        go_simp
                                        try rfl
                                      case onw =>
                                        try simp only [Act.put, List.setIfInBounds_toArray, List.set_cons_zero, List.set_cons_succ]
                                        refine wpAnyL_done (by kernel_rfl) ?_ _
                                        go_wp2_with fail
                                        go_meet
                                        case rel => exact ⟨rfl, hH6.1, hH6.2.1, hH6.2.2⟩
        case rest =>
          obtain ⟨rfl, d1, d2, bN⟩ := hcut
          obtain ⟨w5, hwn⟩ : ∃ w5, w5 = wc := ⟨_, rfl⟩
          rw [← hwn] at d1 d2 bN ⊢
          clear hwn c1 c2 B1
          have c1 := d1
          have c2 := d2
          have B1 := bN
          clear d1 d2 bN
          go_upto_region 14 with fail
          go_cut [10, 11] (fun v10 v11 wd => v10 = .int .i64 x ∧ v11 = .int .i64 y ∧ wd.cell? ⟨w.heap.size, 0, none⟩ = some (.int .i64 a) ∧ wd.cell? ⟨w.heap.size + 1, 0, none⟩ = some (.int .i64 b) ∧ Below w.heap.size w wd)
          case first =>
            as_aux_lemma =>
              obtain ⟨_, _, _, _, s5, s6, _⟩ := S.out
              refine wp_region_late (fun w' => w'.cell? ⟨w.heap.size, 0, none⟩ = some (.int .i64 a) ∧ w'.cell? ⟨w.heap.size + 1, 0, none⟩ = some (.int .i64 b) ∧ Below w.heap.size w w') (fun _ => false) (by kernel_rfl) ?_
              have hH : w5.drew.cell? ⟨w.heap.size, 0, none⟩ = some (.int .i64 a) ∧ w5.drew.cell? ⟨w.heap.size + 1, 0, none⟩ = some (.int .i64 b) ∧ Below w.heap.size w w5.drew := ⟨c1, c2, B1.drew⟩
              generalize w5.drew = wd at hH ⊢
              refine' wpAnyL_take (i := 0) (oi := ⟨some 135, _, _, _, _, _⟩) (v := _) rfl (by kernel_rfl) (by kernel_rfl) (by kernel_rfl) (by kernel_rfl) (fun _ _ _ h => h) hH (by rfl) ?hyv ?onw
              case hyv =>
                intro wz hSw
                obtain ⟨z1, z2, _⟩ := hSw
                go_simp
                try rfl
              case onw =>
                try simp only [Act.put, List.setIfInBounds_toArray, List.set_cons_zero, List.set_cons_succ]
                refine' wpAnyL_take (i := 2) (oi := ⟨some 137, _, _, _, _, _⟩) (v := _) rfl (by kernel_rfl) (by kernel_rfl) (by kernel_rfl) (by kernel_rfl) (fun _ _ _ h => h) hH (by rfl) ?hyv ?onw
                case hyv =>
                  intro wz hSw
                  obtain ⟨z1, z2, _⟩ := hSw
                  go_simp
                  try rfl
                case onw =>
                  try simp only [Act.put, List.setIfInBounds_toArray, List.set_cons_zero, List.set_cons_succ]
                  refine wpAnyL_one (i := 1) (o := _) rfl (by kernel_rfl) (by rfl) (fun K hK => ?_)
                  go_simp
                  refine (s5 wd).mono ?_
                  rintro e v1 ⟨rfl, m1, hm1⟩
                  have hH1 : v1.cell? ⟨w.heap.size, 0, none⟩ = some (.int .i64 a) ∧ v1.cell? ⟨w.heap.size + 1, 0, none⟩ = some (.int .i64 b) ∧ Below w.heap.size w v1 := by rw [hm1]; exact ⟨hH.1, hH.2.1, belowD hH.2.2 _⟩
                  clear hm1
                  refine hK.out _ _ (fun _ => hH1) ?_
                  clear hK K
                  try simp only [Act.put, List.setIfInBounds_toArray, List.set_cons_zero, List.set_cons_succ]
                  refine wpAnyL_one (i := 3) (o := _) rfl (by kernel_rfl) (by rfl) (fun K hK => ?_)
                  go_simp
                  refine (s6 v1).mono ?_
                  rintro e v2 ⟨rfl, m2, hm2⟩
                  have hH2 : v2.cell? ⟨w.heap.size, 0, none⟩ = some (.int .i64 a) ∧ v2.cell? ⟨w.heap.size + 1, 0, none⟩ = some (.int .i64 b) ∧ Below w.heap.size w v2 := by rw [hm2]; exact ⟨hH1.1, hH1.2.1, belowD hH1.2.2 _⟩
                  clear hm2
                  refine hK.out _ _ (fun _ => hH2) ?_
                  clear hK K
                  try simp only [Act.put, List.setIfInBounds_toArray, List.set_cons_zero, List.set_cons_succ]
                  refine' wpAnyL_take (i := 4) (oi := ⟨some 10, _, _, _, _, _⟩) (v := _) rfl (by kernel_rfl) (by kernel_rfl) (by kernel_rfl) (by kernel_rfl) (fun _ _ _ h => h) hH2 (by rfl) ?hyv ?onw
                  case hyv =>
                    intro wz hSw
                    obtain ⟨z1, z2, _⟩ := hSw
                    go_simp
                    try rfl
                  case onw =>
                    try simp only [Act.put, List.setIfInBounds_toArray, List.set_cons_zero, List.set_cons_succ]
                    refine' wpAnyL_take (i := 5) (oi := ⟨some 11, _, _, _, _, _⟩) (v := _) rfl (by kernel_rfl) (by kernel_rfl) (by kernel_rfl) (by kernel_rfl) (fun _ _ _ h => h) hH2 (by rfl) ?hyv ?onw
                    case hyv =>
                      intro wz hSw
                      obtain ⟨z1, z2, _⟩ := hSw
                      go_simp
                      try rfl
                    case onw =>
                      try simp only [Act.put, List.setIfInBounds_toArray, List.set_cons_zero, List.set_cons_succ]
                      refine wpAnyL_done (by kernel_rfl) ?_ _
                      go_wp2_with fail
                      go_meet
                      case rel => exact ⟨rfl, rfl, hH2.1, hH2.2.1, hH2.2.2⟩
          case rest =>
            obtain ⟨rfl, rfl, d1, d2, bN⟩ := hcut
            obtain ⟨w6, hwn⟩ : ∃ w6, w6 = wc := ⟨_, rfl⟩
            rw [← hwn] at d1 d2 bN ⊢
            clear hwn c1 c2 B1
            have c1 := d1
            have c2 := d2
            have B1 := bN
            clear d1 d2 bN
            go_upto_region 15 with fail
            have h6 := F.out.2.2.2.2.2.1
            have h7 := F.out.2.2.2.2.2.2.1
            go_cut [177] (fun v177 wd => v177 = .bool false ∧ wd.cell? ⟨w.heap.size, 0, none⟩ = some (.int .i64 a) ∧ wd.cell? ⟨w.heap.size + 1, 0, none⟩ = some (.int .i64 b) ∧ Below w.heap.size w wd)
            case first =>
              as_aux_lemma =>
                have hxy : (x = 1 ∨ x = 0) ∧ (y = 1 ∨ y = 0) ∧ an = (1 - x) * (1 - y) ∧ oo = 1 - x * y ∧ xo = (1 - x) * y + x * (1 - y) := by
                  obtain ⟨e1, e2⟩ := h6
                  obtain ⟨e3, e4, e5⟩ := h7
                  rw [e1, e2, e3, e4, e5]
                  by_cases k1 : a = 0 <;> by_cases k2 : b = 0 <;> simp [k1, k2, tr]
                clear h6 h7
                obtain ⟨hx1, hy1, e3, e4, e5⟩ := hxy
                rcases hx1 with rfl | rfl <;> rcases hy1 with rfl | rfl
                · as_aux_lemma =>
                    simp at e3 e4 e5
                    subst e3 e4 e5
                    go_wp2_with (first | (go_at_call 13; refine ((HD.out w6 c1 c2).2.2.2.2.2.1).mono ?_; rintro e w' ⟨rfl, rfl⟩) | (go_at_call 13; refine ((HD.out w6 c1 c2).2.2.2.2.2.2.1).mono ?_; rintro e w' ⟨rfl, rfl⟩) | (go_at_call 13; refine ((HD.out w6 c1 c2).2.2.2.2.2.2.2.1).mono ?_; rintro e w' ⟨rfl, rfl⟩))
                    go_meet
                    case rel => exact ⟨rfl, c1, c2, B1⟩
                · as_aux_lemma =>
                    simp at e3 e4 e5
                    subst e3 e4 e5
                    go_wp2_with (first | (go_at_call 13; refine ((HD.out w6 c1 c2).2.2.2.2.2.1).mono ?_; rintro e w' ⟨rfl, rfl⟩) | (go_at_call 13; refine ((HD.out w6 c1 c2).2.2.2.2.2.2.1).mono ?_; rintro e w' ⟨rfl, rfl⟩) | (go_at_call 13; refine ((HD.out w6 c1 c2).2.2.2.2.2.2.2.1).mono ?_; rintro e w' ⟨rfl, rfl⟩))
                    go_meet
                    case rel => exact ⟨rfl, c1, c2, B1⟩
                · as_aux_lemma =>
                    simp at e3 e4 e5
                    subst e3 e4 e5
                    go_wp2_with (first | (go_at_call 13; refine ((HD.out w6 c1 c2).2.2.2.2.2.1).mono ?_; rintro e w' ⟨rfl, rfl⟩) | (go_at_call 13; refine ((HD.out w6 c1 c2).2.2.2.2.2.2.1).mono ?_; rintro e w' ⟨rfl, rfl⟩) | (go_at_call 13; refine ((HD.out w6 c1 c2).2.2.2.2.2.2.2.1).mono ?_; rintro e w' ⟨rfl, rfl⟩))
                    go_meet
                    case rel => exact ⟨rfl, c1, c2, B1⟩
                · as_aux_lemma =>
                    simp at e3 e4 e5
                    subst e3 e4 e5
                    go_wp2_with (first | (go_at_call 13; refine ((HD.out w6 c1 c2).2.2.2.2.2.1).mono ?_; rintro e w' ⟨rfl, rfl⟩) | (go_at_call 13; refine ((HD.out w6 c1 c2).2.2.2.2.2.2.1).mono ?_; rintro e w' ⟨rfl, rfl⟩) | (go_at_call 13; refine ((HD.out w6 c1 c2).2.2.2.2.2.2.2.1).mono ?_; rintro e w' ⟨rfl, rfl⟩))
                    go_meet
                    case rel => exact ⟨rfl, c1, c2, B1⟩
            case rest =>
              obtain ⟨rfl, d1, d2, bN⟩ := hcut
              obtain ⟨w7, hwn⟩ : ∃ w7, w7 = wc := ⟨_, rfl⟩
              rw [← hwn] at d1 d2 bN ⊢
              clear hwn c1 c2 B1
              have c1 := d1
              have c2 := d2
              have B1 := bN
              clear d1 d2 bN
              have h8 := F.out.2.2.2.2.2.2.2
              have s7 := S.out.2.2.2.2.2.2
              clear h6 h7
              rcases (by omega : a < b ∨ a = b ∨ b < a) with k1 | k1 | k1
              · as_aux_lemma =>
                  have g : (a == b) = false := by simp; omega
                  obtain ⟨e1, e2, e3⟩ : ls = 1 ∧ eq = 0 ∧ lt = 0 := by rw [h8.1, h8.2.1, h8.2.2]; simp [tr]; omega
                  subst e1 e2 e3
                  clear h8 k1
                  go_wp2_with (first | (go_at_call 11; refine (s7 _).mono ?_; rintro e w' ⟨rfl, rfl⟩) | (first | (go_at_call 13; refine ((HD.out w7 c1 c2).2.2.2.2.2.2.2.2.1).mono ?_; rintro e w' ⟨rfl, rfl⟩) | (go_at_call 13; refine ((HD.out w7 c1 c2).2.2.2.2.2.2.2.2.2).mono ?_; rintro e w' ⟨rfl, rfl⟩)))
                  go_ret
                  exact ⟨rfl, B1⟩
              · as_aux_lemma =>
                  have g : (a == b) = true := by simpa using k1
                  obtain ⟨e1, e2, e3⟩ : ls = 0 ∧ eq = 1 ∧ lt = 0 := by rw [h8.1, h8.2.1, h8.2.2]; simp [tr]; omega
                  subst e1 e2 e3
                  clear h8 k1
                  go_wp2_with (first | (go_at_call 11; refine (s7 _).mono ?_; rintro e w' ⟨rfl, rfl⟩) | (first | (go_at_call 13; refine ((HD.out w7 c1 c2).2.2.2.2.2.2.2.2.1).mono ?_; rintro e w' ⟨rfl, rfl⟩) | (go_at_call 13; refine ((HD.out w7 c1 c2).2.2.2.2.2.2.2.2.2).mono ?_; rintro e w' ⟨rfl, rfl⟩)))
                  go_ret
                  exact ⟨rfl, B1⟩
              · as_aux_lemma =>
                  have g : (a == b) = false := by simp; omega
                  obtain ⟨e1, e2, e3⟩ : ls = 0 ∧ eq = 0 ∧ lt = 1 := by rw [h8.1, h8.2.1, h8.2.2]; simp [tr]; omega
                  subst e1 e2 e3
                  clear h8 k1
                  go_wp2_with (first | (go_at_call 11; refine (s7 _).mono ?_; rintro e w' ⟨rfl, rfl⟩) | (first | (go_at_call 13; refine ((HD.out w7 c1 c2).2.2.2.2.2.2.2.2.1).mono ?_; rintro e w' ⟨rfl, rfl⟩) | (go_at_call 13; refine ((HD.out w7 c1 c2).2.2.2.2.2.2.2.2.2).mono ?_; rintro e w' ⟨rfl, rfl⟩)))
                  go_ret
                  exact ⟨rfl, B1⟩
end Go.Proofs.YtfhjejmadhcmnaaDoor
