import Derived.Test.YtbiomnnlpafciaaDoorT40
import Derived.WalkKit
import Derived.WalkSpells
import Derived.IntWalk
import Derived.Deep.Cut
import Derived.Deep.LoopGhost
import Derived.Laws.Cover1
import Derived.Lib.Hide
set_option linter.unusedVariables false
set_option linter.unusedSimpArgs false
set_option maxHeartbeats 64000000
set_option maxRecDepth 100000
namespace Go.Proofs.YtbiomnnlpafciaaDoor
open Go.RowKit Go.IntWalk
set_option linter.unusedVariables false
set_option linter.unusedSimpArgs false
namespace Em
def Lq : Lo.Lp := ⟨6, [1], [5], [⟨1, 0, 0, 5, [], [⟨2, 0, 1, 0⟩, ⟨1, 0, 0, 2⟩, ⟨6, 1, 0, 0⟩]⟩]⟩
def Cq : List Cd.In := [⟨2, 0, 2, 0, 0, 1⟩, ⟨1, 0, 3, 0, 0, 2⟩, ⟨7, 1, 2, 2, 3, 0⟩, ⟨4, 0, 2, 0, 0, 5⟩]
theorem make_q : make Lq [] = ((0, 0), ⟨6, 4, 4, [1], [], [5], Cq⟩) := by kernel_rfl
end Em
theorem em_one {ok : Nat → Prop} {w : World} {b : Nat} {x : Int} (k : w.heap[b]? = some (.cells #[.int .i64 x] 3 (0, 0))) (hob : ok b) : HInts ok w (.slice (some ⟨b, 0, none⟩) 1 1) [x] :=
  longs_row (blk_row kLong (l := [x]) k (fun _ => [.int .i64 x]) (fun i hi => ⟨rfl, fun j hj => by
    have h1 : i = 0 := by simpa using hi
    have h2 : j = 0 := by have : j < 1 := hj; omega
    subst h1 h2
    rfl⟩) (fun i hi => by
    have h1 : i = 0 := by simpa using hi
    subst h1
    rfl) hob (show 1 ≤ maxLen by decide))
theorem em_E {ok : Nat → Prop} {w : World} {b : Nat} (k : w.heap[b]? = some (.cells #[.int .i64 2, .int .i64 0, .int .i64 1, .int .i64 0, .int .i64 1, .int .i64 0, .int .i64 0, .int .i64 2, .int .i64 6, .int .i64 1, .int .i64 0, .int .i64 0] 59 (0, 0))) (hob : ok b) : HPu ok w (.slice (some ⟨b, 0, none⟩) 3 3) [⟨2, 0, 1, 0⟩, ⟨1, 0, 0, 2⟩, ⟨6, 1, 0, 0⟩] :=
  pus_row (blk_row kPu (l := [⟨2, 0, 1, 0⟩, ⟨1, 0, 0, 2⟩, ⟨6, 1, 0, 0⟩]) k (fun i => (([⟨2, 0, 1, 0⟩, ⟨1, 0, 0, 2⟩, ⟨6, 1, 0, 0⟩] : List Pu).getD i ⟨0, 0, 0, 0⟩).cs) (fun i hi => by
    rcases lt3 (show i < 3 from hi) with rfl | rfl | rfl
    all_goals (refine ⟨rfl, fun j hj => ?_⟩; rcases lt4 (show j < 4 from hj) with rfl | rfl | rfl | rfl <;> rfl)) (fun i hi => by
    rcases lt3 (show i < 3 from hi) with rfl | rfl | rfl
    all_goals rfl) hob (by decide))
theorem em_nilP {ok : Nat → Prop} {w : World} : HPu ok w (.slice none 0 0) [] := ⟨fun _ => [], ⟨none, 0, rfl, Nat.le_refl _, by decide, fun h => absurd h (by decide)⟩, fun j hj => absurd hj (Nat.not_lt_zero _)⟩
theorem em_nilI {ok : Nat → Prop} {w : World} : HInts ok w (.slice none 0 0) [] := ⟨fun _ => [], ⟨none, 0, rfl, Nat.le_refl _, by decide, fun h => absurd h (by decide)⟩, fun j hj => absurd hj (Nat.not_lt_zero _)⟩
theorem em_S {ok : Nat → Prop} {w : World} {b e1 : Nat} (k : w.heap[b]? = some (.cells #[.int .i64 1, .int .i64 0, .int .i64 0, .int .i64 5, .slice none 0 0, .slice (some ⟨e1, 0, none⟩) 3 3] 62 (0, 0))) (hob : ok b) (h1 : HPu ok w (.slice (some ⟨e1, 0, none⟩) 3 3) [⟨2, 0, 1, 0⟩, ⟨1, 0, 0, 2⟩, ⟨6, 1, 0, 0⟩]) : HSps ok w (.slice (some ⟨b, 0, none⟩) 1 1) Em.Lq.S :=
  sps_row (blk_row kSp (l := Em.Lq.S) k (fun i => scs ⟨1, 0, 0, 5, [], []⟩ ⟨none, 0, 0, some ⟨e1, 0, none⟩, 3, 3⟩) (fun i hi => by
    have h3 : i = 0 := by have hi2 : i < 1 := hi; omega
    subst h3
    refine ⟨rfl, fun j hj => ?_⟩
    rcases lt6 (show j < 6 from hj) with rfl | rfl | rfl | rfl | rfl | rfl <;> rfl) (fun i hi => by
    have h3 : i = 0 := by have hi2 : i < 1 := hi; omega
    subst h3
    exact ⟨⟨none, 0, 0, some ⟨e1, 0, none⟩, 3, 3⟩, rfl, ⟨em_nilP, h1⟩⟩) hob (by decide))
theorem five_blocks (w : World) (o1 o2 o3 o4 o5 : Obj) : (((((w.alloc o1).alloc o2).alloc o3).alloc o4).alloc o5).heap[w.heap.size]? = some o1 ∧ (((((w.alloc o1).alloc o2).alloc o3).alloc o4).alloc o5).heap[w.heap.size + 1]? = some o2 ∧ (((((w.alloc o1).alloc o2).alloc o3).alloc o4).alloc o5).heap[w.heap.size + 2]? = some o3 ∧ (((((w.alloc o1).alloc o2).alloc o3).alloc o4).alloc o5).heap[w.heap.size + 3]? = some o4 ∧ (((((w.alloc o1).alloc o2).alloc o3).alloc o4).alloc o5).heap[w.heap.size + 4]? = some o5 := by
  have k1 := heap_new w o1
  have s1 : (w.alloc o1).heap.size = w.heap.size + 1 := by simp
  generalize w.alloc o1 = w1 at k1 s1 ⊢
  have k2 := heap_new w1 o2
  have k12 := (Below.heap_alloc w1 o2 w.heap.size (by omega)).trans k1
  have s2 : (w1.alloc o2).heap.size = w.heap.size + 2 := by simp; omega
  rw [s1] at k2
  generalize w1.alloc o2 = w2 at k2 k12 s2 ⊢
  have k3 := heap_new w2 o3
  have k13 := (Below.heap_alloc w2 o3 w.heap.size (by omega)).trans k12
  have k23 := (Below.heap_alloc w2 o3 (w.heap.size + 1) (by omega)).trans k2
  have s3 : (w2.alloc o3).heap.size = w.heap.size + 3 := by simp; omega
  rw [s2] at k3
  generalize w2.alloc o3 = w3 at k3 k13 k23 s3 ⊢
  have k4 := heap_new w3 o4
  have k14 := (Below.heap_alloc w3 o4 w.heap.size (by omega)).trans k13
  have k24 := (Below.heap_alloc w3 o4 (w.heap.size + 1) (by omega)).trans k23
  have k34 := (Below.heap_alloc w3 o4 (w.heap.size + 2) (by omega)).trans k3
  have s4 : (w3.alloc o4).heap.size = w.heap.size + 4 := by simp; omega
  rw [s3] at k4
  generalize w3.alloc o4 = w4 at k4 k14 k24 k34 s4 ⊢
  have k5 := heap_new w4 o5
  rw [s4] at k5
  exact ⟨(Below.heap_alloc w4 o5 w.heap.size (by omega)).trans k14, (Below.heap_alloc w4 o5 (w.heap.size + 1) (by omega)).trans k24, (Below.heap_alloc w4 o5 (w.heap.size + 2) (by omega)).trans k34, (Below.heap_alloc w4 o5 (w.heap.size + 3) (by omega)).trans k4, k5⟩
set_option maxHeartbeats 8000000 in
theorem emitBegun5_any {w : World} (hK : GlobK w) : Calls Tryd.prog 5 #[] w fun e w' => e = .returned (.bool true) ∧ Below w.heap.size w w' := by
  obtain ⟨k1, k2, k3, k4, k5⟩ := five_blocks w (.cells #[.int .i64 1] 3 (0, 0)) (.cells #[.int .i64 5] 3 (0, 0)) (.cells #[.int .i64 2, .int .i64 0, .int .i64 1, .int .i64 0, .int .i64 1, .int .i64 0, .int .i64 0, .int .i64 2, .int .i64 6, .int .i64 1, .int .i64 0, .int .i64 0] 59 (0, 0)) (.cells #[.int .i64 1, .int .i64 0, .int .i64 0, .int .i64 5, .slice none 0 0, .slice (some ⟨w.heap.size + 2, 0, none⟩) 3 3] 62 (0, 0)) (.cells #[.int .i64 6, .slice (some ⟨w.heap.size, 0, none⟩) 1 1, .slice (some ⟨w.heap.size + 1, 0, none⟩) 1 1, .slice (some ⟨w.heap.size + 3, 0, none⟩) 1 1] 25 (0, 0))
  have b1 : Below w.heap.size w (((((w.alloc (.cells #[.int .i64 1] 3 (0, 0))).alloc (.cells #[.int .i64 5] 3 (0, 0))).alloc (.cells #[.int .i64 2, .int .i64 0, .int .i64 1, .int .i64 0, .int .i64 1, .int .i64 0, .int .i64 0, .int .i64 2, .int .i64 6, .int .i64 1, .int .i64 0, .int .i64 0] 59 (0, 0))).alloc (.cells #[.int .i64 1, .int .i64 0, .int .i64 0, .int .i64 5, .slice none 0 0, .slice (some ⟨w.heap.size + 2, 0, none⟩) 3 3] 62 (0, 0))).alloc (.cells #[.int .i64 6, .slice (some ⟨w.heap.size, 0, none⟩) 1 1, .slice (some ⟨w.heap.size + 1, 0, none⟩) 1 1, .slice (some ⟨w.heap.size + 3, 0, none⟩) 1 1] 25 (0, 0))) := (((((Below.refl _ _).alloc (Nat.le_refl _) _).alloc (by simp) _).alloc (by simp; omega) _).alloc (by simp; omega) _).alloc (by simp; omega) _
  have HK := hide (hK.under b1)
  clear hK
  go_enter Tryd.func5, Tryd.ntmps5
  go_upto_region 2 with fail
  generalize (((((w.alloc (.cells #[.int .i64 1] 3 (0, 0))).alloc (.cells #[.int .i64 5] 3 (0, 0))).alloc (.cells #[.int .i64 2, .int .i64 0, .int .i64 1, .int .i64 0, .int .i64 1, .int .i64 0, .int .i64 0, .int .i64 2, .int .i64 6, .int .i64 1, .int .i64 0, .int .i64 0] 59 (0, 0))).alloc (.cells #[.int .i64 1, .int .i64 0, .int .i64 0, .int .i64 5, .slice none 0 0, .slice (some ⟨w.heap.size + 2, 0, none⟩) 3 3] 62 (0, 0))).alloc (.cells #[.int .i64 6, .slice (some ⟨w.heap.size, 0, none⟩) 1 1, .slice (some ⟨w.heap.size + 1, 0, none⟩) 1 1, .slice (some ⟨w.heap.size + 3, 0, none⟩) 1 1] 25 (0, 0))) = w1 at b1 k1 k2 k3 k4 k5 HK ⊢
  have hL : HLp (fun _ => True) w1 (some ⟨w.heap.size, 0, none⟩) (some ⟨w.heap.size + 1, 0, none⟩) (some ⟨w.heap.size + 3, 0, none⟩) 1 1 1 Em.Lq := ⟨em_one k1 trivial, em_one k2 trivial, em_S k4 trivial (em_E k3 trivial), fun s hs => by
    have e : s = ⟨1, 0, 0, 5, [], [⟨2, 0, 1, 0⟩, ⟨1, 0, 0, 2⟩, ⟨6, 1, 0, 0⟩]⟩ := by simpa [Em.Lq] using hs
    subst e
    refine ⟨fun p hp => (by cases hp), fun p hp => ?_⟩
    simp at hp
    rcases hp with rfl | rfl | rfl <;> (unfold I64; dsimp only; omega)⟩
  have hM := make8_any (B := []) (okB := fun _ => True) (aB := none) (cB := 0) HK.out hL em_nilI (by decide) (by decide) (by decide) (by decide)
  have HM := hide hM
  clear hL hM k1 k2 k3 k4
  have c0 := cell_of k5 0
  have c1 := cell_of k5 1
  have c2 := cell_of k5 2
  have c3 := cell_of k5 3
  simp at c0 c1 c2 c3
  clear k5
  go_wp2_with fail
  refine HM.out.mono ?_
  rintro e w2 ⟨⟨aP, aB, aG, aL, cP, cB, cG, cL, he, -⟩, b2⟩
  rw [Em.make_q] at he
  have B2 := b1.trans (b2.mono b1.size)
  have he2 : e = .returned (.tuple #[.agg #[.int .i64 6, .int .i64 4, .int .i64 4, .slice aP 1 cP, .slice aB 0 cB, .slice aG 1 cG, .slice aL 4 cL], .agg #[.int .i64 0, .int .i64 0]]) := he
  clear he HM HK b1 b2 c0 c1 c2 c3
  subst he2
  go_wp2
  go_ret
  exact ⟨rfl, (B2.alloc B2.size _).alloc (by have := B2.size; simp; omega) _⟩
end Go.Proofs.YtbiomnnlpafciaaDoor
