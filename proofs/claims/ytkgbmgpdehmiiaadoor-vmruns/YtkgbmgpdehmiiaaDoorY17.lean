import Derived.Test.YtkgbmgpdehmiiaaDoorY16
import Derived.WalkKit
import Derived.WalkSpells
import Derived.IntWalk
import Derived.Deep.Cut
import Derived.Deep.LoopGhost
import Derived.Laws.Cover1
import Derived.Lib.Hide
set_option linter.unusedVariables false
set_option linter.unusedSimpArgs false
set_option maxHeartbeats 64000000
set_option maxRecDepth 100000
namespace Go.Proofs.YtkgbmgpdehmiiaaDoor
open Go.RowKit Go.IntWalk
set_option linter.unusedVariables false
set_option linter.unusedSimpArgs false
theorem lacksLit (c R : Int) (L : List Int) (hL : L.length ≤ 4) (w : World) : Calls Tryd.prog 49 #[.agg #[.int .i64 c, .int .i64 R], .slice (some ⟨w.heap.size, 0, none⟩) L.length L.length] (w.alloc (.cells (L.map (Value.int .i64)).toArray 3 (0, 0))) fun e w' => e = .returned (.bool (Cd.lacks R L)) ∧ Below w.heap.size w w' := by
  have b1 : Below w.heap.size w (w.alloc (.cells (L.map (Value.int .i64)).toArray 3 (0, 0))) := (Below.refl _ _).alloc (Nat.le_refl _) _
  have h := blk_ints (heap_new w (.cells (L.map (Value.int .i64)).toArray 3 (0, 0))) (by unfold maxLen; omega)
  refine (lacks28_any c R h).mono fun e w' ⟨h1, h2⟩ => ⟨h1, b1.trans (h2.mono b1.size)⟩
set_option maxHeartbeats 32000000 in
theorem bars17_any (c R : Int) (i : Cd.In) (w : World) (hG : GlobK w) (hW : I64 i.b) (hc : 1 ≤ c ∧ c ≤ 6000) : Calls Tryd.prog 38 #[.agg #[.int .i64 c, .int .i64 R], .agg #[.int .i64 i.op, .int .i64 i.k, .int .i64 i.r, .int .i64 i.a, .int .i64 i.b, .int .i64 i.n]] w fun e w' => e = .returned (.bool (Cd.bars c R i)) ∧ Below w.heap.size w w' := by
  obtain ⟨op, k, r, a, b, n⟩ := i
  dsimp only at hW ⊢
  have b1 : Below w.heap.size w ((w.alloc (.cells #[.int .i64 c, .int .i64 R] 72 (0, 0))).alloc (.cells #[.int .i64 op, .int .i64 k, .int .i64 r, .int .i64 a, .int .i64 b, .int .i64 n] 52 (0, 0))) := ((Below.refl _ _).alloc (Nat.le_refl _) _).alloc (by simp) _
  have kR : (((w.alloc (.cells #[.int .i64 c, .int .i64 R] 72 (0, 0))).alloc (.cells #[.int .i64 op, .int .i64 k, .int .i64 r, .int .i64 a, .int .i64 b, .int .i64 n] 52 (0, 0)))).heap[w.heap.size]? = some (.cells #[.int .i64 c, .int .i64 R] 72 (0, 0)) := (Below.heap_alloc _ _ _ (by simp)).trans (heap_new w _)
  have kI : (((w.alloc (.cells #[.int .i64 c, .int .i64 R] 72 (0, 0))).alloc (.cells #[.int .i64 op, .int .i64 k, .int .i64 r, .int .i64 a, .int .i64 b, .int .i64 n] 52 (0, 0)))).heap[w.heap.size + 1]? = some (.cells #[.int .i64 op, .int .i64 k, .int .i64 r, .int .i64 a, .int .i64 b, .int .i64 n] 52 (0, 0)) := by
    have := heap_new (w.alloc (.cells #[.int .i64 c, .int .i64 R] 72 (0, 0))) (.cells #[.int .i64 op, .int .i64 k, .int .i64 r, .int .i64 a, .int .i64 b, .int .i64 n] 52 (0, 0))
    simpa using this
  have HG := hide (fun W (b : Below w.heap.size w W) => opnd29_any k W (hG.under b))
  have HW := hide hW
  have HC := hide hc
  obtain ⟨Q, hQ⟩ : ∃ Q, Q = Cd.bars c R ⟨op, k, r, a, b, n⟩ := ⟨_, rfl⟩
  rw [← hQ]
  have HQ := hide hQ
  have H1 := hide (fun W : World => (show Calls Tryd.prog 49 #[.agg #[.int .i64 c, .int .i64 R], .slice (some ⟨W.heap.size, 0, none⟩) 1 1] (W.alloc (.cells #[.int .i64 r] 3 (0, 0))) fun e w' => e = .returned (.bool (Cd.lacks R [r])) ∧ Below W.heap.size W w' from lacksLit c R [r] (by simp) W))
  have H2 := hide (fun W : World => (show Calls Tryd.prog 49 #[.agg #[.int .i64 c, .int .i64 R], .slice (some ⟨W.heap.size, 0, none⟩) 2 2] (W.alloc (.cells #[.int .i64 r, .int .i64 a] 3 (0, 0))) fun e w' => e = .returned (.bool (Cd.lacks R [r, a])) ∧ Below W.heap.size W w' from lacksLit c R [r, a] (by simp) W))
  have H3 := hide (fun W : World => (show Calls Tryd.prog 49 #[.agg #[.int .i64 c, .int .i64 R], .slice (some ⟨W.heap.size, 0, none⟩) 3 3] (W.alloc (.cells #[.int .i64 r, .int .i64 a, .int .i64 b] 3 (0, 0))) fun e w' => e = .returned (.bool (Cd.lacks R [r, a, b])) ∧ Below W.heap.size W w' from lacksLit c R [r, a, b] (by simp) W))
  clear hG hW hc hQ
  go_enter Tryd.func38, Tryd.ntmps38
  go_upto_region 1 with fail
  generalize ((w.alloc (.cells #[.int .i64 c, .int .i64 R] 72 (0, 0))).alloc (.cells #[.int .i64 op, .int .i64 k, .int .i64 r, .int .i64 a, .int .i64 b, .int .i64 n] 52 (0, 0))) = w1 at b1 kR kI ⊢
  have r0 := cell_of kR 0
  have r1 := cell_of kR 1
  have i0 := cell_of kI 0
  have i1 := cell_of kI 1
  have i2 := cell_of kI 2
  have i3 := cell_of kI 3
  have i4 := cell_of kI 4
  have i5 := cell_of kI 5
  simp at r0 r1 i0 i1 i2 i3 i4 i5
  by_cases h1 : op = 1
  case pos =>
    subst h1
    have hz : Q = (Cd.lacks R [r]) := by rw [HQ.out]; simp [Cd.bars]
    have hl := H1.out w1
    obtain ⟨q, hq⟩ : ∃ q, q = Cd.lacks R [r] := ⟨_, rfl⟩
    rw [← hq] at hl
    rw [← hq] at hz
    have HZ := hide hz
    have HL := hide hl
    clear hz hl hq HQ H1 H2 H3
    go_wp2_with fail
    refine HL.out.mono ?_
    rintro e w2 ⟨rfl, b2⟩
    have B2 := b1.trans (b2.mono b1.size)
    have kR2 := (b2.block _ (lt_of kR)).trans kR
    have kI2 := (b2.block _ (lt_of kI)).trans kI
    clear r0 r1 i0 i1 i2 i3 i4 i5
    clear kR kI HL
    have r0 := cell_of kR2 0
    have r1 := cell_of kR2 1
    have i0 := cell_of kI2 0
    have i1 := cell_of kI2 1
    have i2 := cell_of kI2 2
    have i3 := cell_of kI2 3
    have i4 := cell_of kI2 4
    have i5 := cell_of kI2 5
    simp at r0 r1 i0 i1 i2 i3 i4 i5
    go_wp2
    go_ret
    exact ⟨by rw [HZ.out]; simp, B2⟩
  by_cases h2 : op = 2
  case pos =>
    subst h2
    have hz : Q = (Cd.lacks R [r] || !Cd.has c n 1) := by rw [HQ.out]; simp [Cd.bars]
    have hl := H1.out w1
    obtain ⟨q, hq⟩ : ∃ q, q = Cd.lacks R [r] := ⟨_, rfl⟩
    rw [← hq] at hl
    rw [← hq] at hz
    have HZ := hide hz
    have HL := hide hl
    clear hz hl hq HQ H1 H2 H3
    go_wp2_with fail
    refine HL.out.mono ?_
    rintro e w2 ⟨rfl, b2⟩
    have B2 := b1.trans (b2.mono b1.size)
    have kR2 := (b2.block _ (lt_of kR)).trans kR
    have kI2 := (b2.block _ (lt_of kI)).trans kI
    clear r0 r1 i0 i1 i2 i3 i4 i5
    clear kR kI HL
    have r0 := cell_of kR2 0
    have r1 := cell_of kR2 1
    have i0 := cell_of kI2 0
    have i1 := cell_of kI2 1
    have i2 := cell_of kI2 2
    have i3 := cell_of kI2 3
    have i4 := cell_of kI2 4
    have i5 := cell_of kI2 5
    simp at r0 r1 i0 i1 i2 i3 i4 i5
    cases q
    case true =>
      go_wp2
      go_ret
      exact ⟨by rw [HZ.out]; simp, B2⟩
    case false =>
      obtain ⟨y, hy⟩ : ∃ y, y = Cd.has c n 1 := ⟨_, rfl⟩
      have hh : ∀ W, Calls Tryd.prog 48 #[.agg #[.int .i64 c, .int .i64 R], .int .i64 n, .int .i64 1] W fun e w' => e = .returned (.bool y) ∧ Below W.heap.size W w' := fun W => by rw [hy]; exact has27_any c R n 1 W (by have h1 := HC.out; have h2 := HW.out; unfold I64 at *; omega)
      have hz := HZ.out
      rw [← hy] at hz
      have HZ2 := hide hz
      have HH := hide hh
      clear HZ hz hh hy
      have HZ := HZ2
      clear HZ2
      go_wp2_with fail
      refine (HH.out _).mono ?_
      rintro e w3 ⟨rfl, b3⟩
      have B3 := B2.trans (b3.mono B2.size)
      go_wp2
      go_ret
      exact ⟨by rw [HZ.out]; simp, B3⟩
  by_cases h4 : op = 4
  case pos =>
    subst h4
    have hz : Q = (Cd.lacks R [r] || !Cd.has c n 1) := by rw [HQ.out]; simp [Cd.bars]
    have hl := H1.out w1
    obtain ⟨q, hq⟩ : ∃ q, q = Cd.lacks R [r] := ⟨_, rfl⟩
    rw [← hq] at hl
    rw [← hq] at hz
    have HZ := hide hz
    have HL := hide hl
    clear hz hl hq HQ H1 H2 H3
    go_wp2_with fail
    refine HL.out.mono ?_
    rintro e w2 ⟨rfl, b2⟩
    have B2 := b1.trans (b2.mono b1.size)
    have kR2 := (b2.block _ (lt_of kR)).trans kR
    have kI2 := (b2.block _ (lt_of kI)).trans kI
    clear r0 r1 i0 i1 i2 i3 i4 i5
    clear kR kI HL
    have r0 := cell_of kR2 0
    have r1 := cell_of kR2 1
    have i0 := cell_of kI2 0
    have i1 := cell_of kI2 1
    have i2 := cell_of kI2 2
    have i3 := cell_of kI2 3
    have i4 := cell_of kI2 4
    have i5 := cell_of kI2 5
    simp at r0 r1 i0 i1 i2 i3 i4 i5
    cases q
    case true =>
      go_wp2
      go_ret
      exact ⟨by rw [HZ.out]; simp, B2⟩
    case false =>
      obtain ⟨y, hy⟩ : ∃ y, y = Cd.has c n 1 := ⟨_, rfl⟩
      have hh : ∀ W, Calls Tryd.prog 48 #[.agg #[.int .i64 c, .int .i64 R], .int .i64 n, .int .i64 1] W fun e w' => e = .returned (.bool y) ∧ Below W.heap.size W w' := fun W => by rw [hy]; exact has27_any c R n 1 W (by have h1 := HC.out; have h2 := HW.out; unfold I64 at *; omega)
      have hz := HZ.out
      rw [← hy] at hz
      have HZ2 := hide hz
      have HH := hide hh
      clear HZ hz hh hy
      have HZ := HZ2
      clear HZ2
      go_wp2_with fail
      refine (HH.out _).mono ?_
      rintro e w3 ⟨rfl, b3⟩
      have B3 := B2.trans (b3.mono B2.size)
      go_wp2
      go_ret
      exact ⟨by rw [HZ.out]; simp, B3⟩
  by_cases h3 : op = 3
  case pos =>
    subst h3
    have hz : Q = (Cd.lacks R [r, a] || decide (b < 1) || !Cd.has c n b) := by rw [HQ.out]; simp [Cd.bars]
    have hl := H2.out w1
    obtain ⟨q, hq⟩ : ∃ q, q = Cd.lacks R [r, a] := ⟨_, rfl⟩
    rw [← hq] at hl
    rw [← hq] at hz
    have HZ := hide hz
    have HL := hide hl
    clear hz hl hq HQ H1 H2 H3
    go_wp2_with fail
    refine HL.out.mono ?_
    rintro e w2 ⟨rfl, b2⟩
    have B2 := b1.trans (b2.mono b1.size)
    have kR2 := (b2.block _ (lt_of kR)).trans kR
    have kI2 := (b2.block _ (lt_of kI)).trans kI
    clear r0 r1 i0 i1 i2 i3 i4 i5
    clear kR kI HL
    have r0 := cell_of kR2 0
    have r1 := cell_of kR2 1
    have i0 := cell_of kI2 0
    have i1 := cell_of kI2 1
    have i2 := cell_of kI2 2
    have i3 := cell_of kI2 3
    have i4 := cell_of kI2 4
    have i5 := cell_of kI2 5
    simp at r0 r1 i0 i1 i2 i3 i4 i5
    cases q
    case true =>
      go_wp2
      go_ret
      exact ⟨by rw [HZ.out]; simp, B2⟩
    case false =>
      by_cases hb : b < 1
      case pos =>
        have HZ2 := hide (show Q = true by rw [HZ.out]; simp [hb])
        clear HZ
        go_wp2
        go_ret
        exact ⟨by rw [HZ2.out]; try simp [hb], B2⟩
      have hb1 : 1 ≤ b := by omega
      obtain ⟨y, hy⟩ : ∃ y, y = Cd.has c n b := ⟨_, rfl⟩
      have hh : ∀ W, Calls Tryd.prog 48 #[.agg #[.int .i64 c, .int .i64 R], .int .i64 n, .int .i64 b] W fun e w' => e = .returned (.bool y) ∧ Below W.heap.size W w' := fun W => by rw [hy]; exact has27_any c R n b W (by have h1 := HC.out; have h2 := HW.out; unfold I64 at *; omega)
      have hz := HZ.out
      rw [← hy] at hz
      have HZ2 := hide hz
      have HH := hide hh
      clear HZ hz hh hy
      have HZ := HZ2
      clear HZ2
      go_wp2_with fail
      refine (HH.out _).mono ?_
      rintro e w3 ⟨rfl, b3⟩
      have B3 := B2.trans (b3.mono B2.size)
      go_wp2
      go_ret
      exact ⟨by rw [HZ.out]; simp [hb1]; try omega, B3⟩
  by_cases h5 : op = 5
  case pos =>
    subst h5
    have hz : Q = (Cd.lacks R [r, a] || decide (b < 1) || !Cd.has c n b) := by rw [HQ.out]; simp [Cd.bars]
    have hl := H2.out w1
    obtain ⟨q, hq⟩ : ∃ q, q = Cd.lacks R [r, a] := ⟨_, rfl⟩
    rw [← hq] at hl
    rw [← hq] at hz
    have HZ := hide hz
    have HL := hide hl
    clear hz hl hq HQ H1 H2 H3
    go_wp2_with fail
    refine HL.out.mono ?_
    rintro e w2 ⟨rfl, b2⟩
    have B2 := b1.trans (b2.mono b1.size)
    have kR2 := (b2.block _ (lt_of kR)).trans kR
    have kI2 := (b2.block _ (lt_of kI)).trans kI
    clear r0 r1 i0 i1 i2 i3 i4 i5
    clear kR kI HL
    have r0 := cell_of kR2 0
    have r1 := cell_of kR2 1
    have i0 := cell_of kI2 0
    have i1 := cell_of kI2 1
    have i2 := cell_of kI2 2
    have i3 := cell_of kI2 3
    have i4 := cell_of kI2 4
    have i5 := cell_of kI2 5
    simp at r0 r1 i0 i1 i2 i3 i4 i5
    cases q
    case true =>
      go_wp2
      go_ret
      exact ⟨by rw [HZ.out]; simp, B2⟩
    case false =>
      by_cases hb : b < 1
      case pos =>
        have HZ2 := hide (show Q = true by rw [HZ.out]; simp [hb])
        clear HZ
        go_wp2
        go_ret
        exact ⟨by rw [HZ2.out]; try simp [hb], B2⟩
      have hb1 : 1 ≤ b := by omega
      obtain ⟨y, hy⟩ : ∃ y, y = Cd.has c n b := ⟨_, rfl⟩
      have hh : ∀ W, Calls Tryd.prog 48 #[.agg #[.int .i64 c, .int .i64 R], .int .i64 n, .int .i64 b] W fun e w' => e = .returned (.bool y) ∧ Below W.heap.size W w' := fun W => by rw [hy]; exact has27_any c R n b W (by have h1 := HC.out; have h2 := HW.out; unfold I64 at *; omega)
      have hz := HZ.out
      rw [← hy] at hz
      have HZ2 := hide hz
      have HH := hide hh
      clear HZ hz hh hy
      have HZ := HZ2
      clear HZ2
      go_wp2_with fail
      refine (HH.out _).mono ?_
      rintro e w3 ⟨rfl, b3⟩
      have B3 := B2.trans (b3.mono B2.size)
      go_wp2
      go_ret
      exact ⟨by rw [HZ.out]; simp [hb1]; try omega, B3⟩
  by_cases h6 : op = 6
  case pos =>
    subst h6
    have hz : Q = (Cd.lacks R [r, a] || ((Kd.opT k).2.2 != 1)) := by rw [HQ.out]; simp [Cd.bars]
    have hl := H2.out w1
    obtain ⟨q, hq⟩ : ∃ q, q = Cd.lacks R [r, a] := ⟨_, rfl⟩
    rw [← hq] at hl
    rw [← hq] at hz
    have HZ := hide hz
    have HL := hide hl
    clear hz hl hq HQ H1 H2 H3
    go_wp2_with fail
    refine HL.out.mono ?_
    rintro e w2 ⟨rfl, b2⟩
    have B2 := b1.trans (b2.mono b1.size)
    have kR2 := (b2.block _ (lt_of kR)).trans kR
    have kI2 := (b2.block _ (lt_of kI)).trans kI
    clear r0 r1 i0 i1 i2 i3 i4 i5
    clear kR kI HL
    have r0 := cell_of kR2 0
    have r1 := cell_of kR2 1
    have i0 := cell_of kI2 0
    have i1 := cell_of kI2 1
    have i2 := cell_of kI2 2
    have i3 := cell_of kI2 3
    have i4 := cell_of kI2 4
    have i5 := cell_of kI2 5
    simp at r0 r1 i0 i1 i2 i3 i4 i5
    cases q
    case true =>
      go_wp2
      go_ret
      exact ⟨by rw [HZ.out]; simp, B2⟩
    case false =>
      have ho := HG.out w2 B2
      have hz := HZ.out
      generalize (Kd.opT k).2.2 = y at ho hz
      have HO := hide ho
      have HZ2 := hide hz
      clear HZ hz ho HG
      have HZ := HZ2
      clear HZ2
      go_wp2_with fail
      refine (HO.out).mono ?_
      rintro e w3 ⟨rfl, b3⟩
      have B3 := B2.trans (b3.mono B2.size)
      go_wp2
      go_ret
      exact ⟨by rw [HZ.out]; simp, B3⟩
  by_cases h7 : op = 7
  case pos =>
    subst h7
    have hz : Q = (Cd.lacks R [r, a, b] || ((Kd.opT k).2.2 != 2)) := by rw [HQ.out]; simp [Cd.bars]
    have hl := H3.out w1
    obtain ⟨q, hq⟩ : ∃ q, q = Cd.lacks R [r, a, b] := ⟨_, rfl⟩
    rw [← hq] at hl
    rw [← hq] at hz
    have HZ := hide hz
    have HL := hide hl
    clear hz hl hq HQ H1 H2 H3
    go_wp2_with fail
    refine HL.out.mono ?_
    rintro e w2 ⟨rfl, b2⟩
    have B2 := b1.trans (b2.mono b1.size)
    have kR2 := (b2.block _ (lt_of kR)).trans kR
    have kI2 := (b2.block _ (lt_of kI)).trans kI
    clear r0 r1 i0 i1 i2 i3 i4 i5
    clear kR kI HL
    have r0 := cell_of kR2 0
    have r1 := cell_of kR2 1
    have i0 := cell_of kI2 0
    have i1 := cell_of kI2 1
    have i2 := cell_of kI2 2
    have i3 := cell_of kI2 3
    have i4 := cell_of kI2 4
    have i5 := cell_of kI2 5
    simp at r0 r1 i0 i1 i2 i3 i4 i5
    cases q
    case true =>
      go_wp2
      go_ret
      exact ⟨by rw [HZ.out]; simp, B2⟩
    case false =>
      have ho := HG.out w2 B2
      have hz := HZ.out
      generalize (Kd.opT k).2.2 = y at ho hz
      have HO := hide ho
      have HZ2 := hide hz
      clear HZ hz ho HG
      have HZ := HZ2
      clear HZ2
      go_wp2_with fail
      refine (HO.out).mono ?_
      rintro e w3 ⟨rfl, b3⟩
      have B3 := B2.trans (b3.mono B2.size)
      go_wp2
      go_ret
      exact ⟨by rw [HZ.out]; simp, B3⟩
  by_cases h8 : op = 8
  case pos =>
    subst h8
    have hz : Q = (Cd.lacks R [r, a, b]) := by rw [HQ.out]; simp [Cd.bars]
    have hl := H3.out w1
    obtain ⟨q, hq⟩ : ∃ q, q = Cd.lacks R [r, a, b] := ⟨_, rfl⟩
    rw [← hq] at hl
    rw [← hq] at hz
    have HZ := hide hz
    have HL := hide hl
    clear hz hl hq HQ H1 H2 H3
    go_wp2_with fail
    refine HL.out.mono ?_
    rintro e w2 ⟨rfl, b2⟩
    have B2 := b1.trans (b2.mono b1.size)
    have kR2 := (b2.block _ (lt_of kR)).trans kR
    have kI2 := (b2.block _ (lt_of kI)).trans kI
    clear r0 r1 i0 i1 i2 i3 i4 i5
    clear kR kI HL
    have r0 := cell_of kR2 0
    have r1 := cell_of kR2 1
    have i0 := cell_of kI2 0
    have i1 := cell_of kI2 1
    have i2 := cell_of kI2 2
    have i3 := cell_of kI2 3
    have i4 := cell_of kI2 4
    have i5 := cell_of kI2 5
    simp at r0 r1 i0 i1 i2 i3 i4 i5
    go_wp2
    go_ret
    exact ⟨by rw [HZ.out]; simp, B2⟩
  by_cases h9 : op = 9
  case pos =>
    subst h9
    have hz : Q = (Cd.lacks R [r, a]) := by rw [HQ.out]; simp [Cd.bars]
    have hl := H2.out w1
    obtain ⟨q, hq⟩ : ∃ q, q = Cd.lacks R [r, a] := ⟨_, rfl⟩
    rw [← hq] at hl
    rw [← hq] at hz
    have HZ := hide hz
    have HL := hide hl
    clear hz hl hq HQ H1 H2 H3
    go_wp2_with fail
    refine HL.out.mono ?_
    rintro e w2 ⟨rfl, b2⟩
    have B2 := b1.trans (b2.mono b1.size)
    have kR2 := (b2.block _ (lt_of kR)).trans kR
    have kI2 := (b2.block _ (lt_of kI)).trans kI
    clear r0 r1 i0 i1 i2 i3 i4 i5
    clear kR kI HL
    have r0 := cell_of kR2 0
    have r1 := cell_of kR2 1
    have i0 := cell_of kI2 0
    have i1 := cell_of kI2 1
    have i2 := cell_of kI2 2
    have i3 := cell_of kI2 3
    have i4 := cell_of kI2 4
    have i5 := cell_of kI2 5
    simp at r0 r1 i0 i1 i2 i3 i4 i5
    go_wp2
    go_ret
    exact ⟨by rw [HZ.out]; simp, B2⟩
  by_cases h10 : op = 10
  case pos =>
    subst h10
    have hz : Q = (Cd.lacks R [r] || !Cd.turn n) := by rw [HQ.out]; simp [Cd.bars]
    have hl := H1.out w1
    obtain ⟨q, hq⟩ : ∃ q, q = Cd.lacks R [r] := ⟨_, rfl⟩
    rw [← hq] at hl
    rw [← hq] at hz
    have HZ := hide hz
    have HL := hide hl
    clear hz hl hq HQ H1 H2 H3
    go_wp2_with fail
    refine HL.out.mono ?_
    rintro e w2 ⟨rfl, b2⟩
    have B2 := b1.trans (b2.mono b1.size)
    have kR2 := (b2.block _ (lt_of kR)).trans kR
    have kI2 := (b2.block _ (lt_of kI)).trans kI
    clear r0 r1 i0 i1 i2 i3 i4 i5
    clear kR kI HL
    have r0 := cell_of kR2 0
    have r1 := cell_of kR2 1
    have i0 := cell_of kI2 0
    have i1 := cell_of kI2 1
    have i2 := cell_of kI2 2
    have i3 := cell_of kI2 3
    have i4 := cell_of kI2 4
    have i5 := cell_of kI2 5
    simp at r0 r1 i0 i1 i2 i3 i4 i5
    cases q
    case true =>
      go_wp2
      go_ret
      exact ⟨by rw [HZ.out]; simp, B2⟩
    case false =>
      have ho := fun W => turn30_any n W
      have hz := HZ.out
      generalize Cd.turn n = y at ho hz
      have HO := hide ho
      have HZ2 := hide hz
      clear HZ hz ho
      have HZ := HZ2
      clear HZ2
      go_wp2_with fail
      refine (HO.out _).mono ?_
      rintro e w3 ⟨rfl, rfl⟩
      go_wp2
      go_ret
      exact ⟨by rw [HZ.out]; simp, B2⟩
  by_cases h11 : op = 11
  case pos =>
    subst h11
    have HZ := hide (show Q = false by rw [HQ.out]; simp [Cd.bars])
    clear HQ H1 H2 H3
    go_wp2
    go_ret
    exact ⟨by rw [HZ.out]; rfl, b1⟩
  have HZ := hide (show Q = true by rw [HQ.out]; simp [Cd.bars, h1, h2, h4, h3, h5, h6, h7, h8, h9, h10, h11])
  clear HQ H1 H2 H3
  have g1 : (op == 1) = false := by simpa using h1
  have g2 : (op == 2) = false := by simpa using h2
  have g4 : (op == 4) = false := by simpa using h4
  have g3 : (op == 3) = false := by simpa using h3
  have g5 : (op == 5) = false := by simpa using h5
  have g6 : (op == 6) = false := by simpa using h6
  have g7 : (op == 7) = false := by simpa using h7
  have g8 : (op == 8) = false := by simpa using h8
  have g9 : (op == 9) = false := by simpa using h9
  have g10 : (op == 10) = false := by simpa using h10
  have g11 : (op == 11) = false := by simpa using h11
  clear h1 h2 h4 h3 h5 h6 h7 h8 h9 h10 h11
  go_wp2
  go_ret
  exact ⟨by rw [HZ.out]; rfl, b1⟩
end Go.Proofs.YtkgbmgpdehmiiaaDoor
