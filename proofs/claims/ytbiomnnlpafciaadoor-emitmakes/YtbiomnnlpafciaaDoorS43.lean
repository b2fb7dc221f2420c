import Derived.Test.YtbiomnnlpafciaaDoorS42
import Derived.WalkKit
import Derived.WalkSpells
import Derived.IntWalk
import Derived.Deep.Cut
import Derived.Deep.LoopGhost
import Derived.Laws.Cover1
import Derived.Lib.Hide
set_option linter.unusedVariables false
set_option linter.unusedSimpArgs false
set_option maxHeartbeats 64000000
set_option maxRecDepth 100000
namespace Go.Proofs.YtbiomnnlpafciaaDoor
open Go.RowKit Go.IntWalk
set_option linter.unusedVariables false
set_option linter.unusedSimpArgs false
namespace Em
def Lq : Lo.Lp := ⟨6, [1], [5], [⟨1, 0, 0, 5, [], [⟨2, 0, 1, 0⟩, ⟨1, 0, 0, 2⟩, ⟨6, 1, 0, 0⟩]⟩]⟩
def Cq : List Cd.In := [⟨2, 0, 2, 0, 0, 1⟩, ⟨1, 0, 3, 0, 0, 2⟩, ⟨7, 1, 2, 2, 3, 0⟩, ⟨4, 0, 2, 0, 0, 5⟩]
theorem make_q : make Lq [] = ((0, 0), ⟨6, 4, 4, [1], [], [5], Cq⟩) := by kernel_rfl
end Em
theorem em_one {ok : Nat → Prop} {w : World} {b : Nat} {x : Int} (k : w.heap[b]? = some (.cells #[.int .i64 x] 3 (0, 0))) (hob : ok b) : HInts ok w (.slice (some ⟨b, 0, none⟩) 1 1) [x] :=
  longs_row (blk_row kLong (l := [x]) k (fun _ => [.int .i64 x]) (fun i hi => ⟨rfl, fun j hj => by
    have h1 : i = 0 := by simpa using hi
    have h2 : j = 0 := by have : j < 1 := hj; omega
    subst h1 h2
    rfl⟩) (fun i hi => by
    have h1 : i = 0 := by simpa using hi
    subst h1
    rfl) hob (show 1 ≤ maxLen by decide))
theorem em_E {ok : Nat → Prop} {w : World} {b : Nat} (k : w.heap[b]? = some (.cells #[.int .i64 2, .int .i64 0, .int .i64 1, .int .i64 0, .int .i64 1, .int .i64 0, .int .i64 0, .int .i64 2, .int .i64 6, .int .i64 1, .int .i64 0, .int .i64 0] 59 (0, 0))) (hob : ok b) : HPu ok w (.slice (some ⟨b, 0, none⟩) 3 3) [⟨2, 0, 1, 0⟩, ⟨1, 0, 0, 2⟩, ⟨6, 1, 0, 0⟩] :=
  pus_row (blk_row kPu (l := [⟨2, 0, 1, 0⟩, ⟨1, 0, 0, 2⟩, ⟨6, 1, 0, 0⟩]) k (fun i => (([⟨2, 0, 1, 0⟩, ⟨1, 0, 0, 2⟩, ⟨6, 1, 0, 0⟩] : List Pu).getD i ⟨0, 0, 0, 0⟩).cs) (fun i hi => by
    rcases lt3 (show i < 3 from hi) with rfl | rfl | rfl
    all_goals (refine ⟨rfl, fun j hj => ?_⟩; rcases lt4 (show j < 4 from hj) with rfl | rfl | rfl | rfl <;> rfl)) (fun i hi => by
    rcases lt3 (show i < 3 from hi) with rfl | rfl | rfl
    all_goals rfl) hob (by decide))
theorem em_nilP {ok : Nat → Prop} {w : World} : HPu ok w (.slice none 0 0) [] := ⟨fun _ => [], ⟨none, 0, rfl, Nat.le_refl _, by decide, fun h => absurd h (by decide)⟩, fun j hj => absurd hj (Nat.not_lt_zero _)⟩
theorem em_nilI {ok : Nat → Prop} {w : World} : HInts ok w (.slice none 0 0) [] := ⟨fun _ => [], ⟨none, 0, rfl, Nat.le_refl _, by decide, fun h => absurd h (by decide)⟩, fun j hj => absurd hj (Nat.not_lt_zero _)⟩
theorem em_S {ok : Nat → Prop} {w : World} {b e1 : Nat} (k : w.heap[b]? = some (.cells #[.int .i64 1, .int .i64 0, .int .i64 0, .int .i64 5, .slice none 0 0, .slice (some ⟨e1, 0, none⟩) 3 3] 62 (0, 0))) (hob : ok b) (h1 : HPu ok w (.slice (some ⟨e1, 0, none⟩) 3 3) [⟨2, 0, 1, 0⟩, ⟨1, 0, 0, 2⟩, ⟨6, 1, 0, 0⟩]) : HSps ok w (.slice (some ⟨b, 0, none⟩) 1 1) Em.Lq.S :=
  sps_row (blk_row kSp (l := Em.Lq.S) k (fun i => scs ⟨1, 0, 0, 5, [], []⟩ ⟨none, 0, 0, some ⟨e1, 0, none⟩, 3, 3⟩) (fun i hi => by
    have h3 : i = 0 := by have hi2 : i < 1 := hi; omega
    subst h3
    refine ⟨rfl, fun j hj => ?_⟩
    rcases lt6 (show j < 6 from hj) with rfl | rfl | rfl | rfl | rfl | rfl <;> rfl) (fun i hi => by
    have h3 : i = 0 := by have hi2 : i < 1 := hi; omega
    subst h3
    exact ⟨⟨none, 0, 0, some ⟨e1, 0, none⟩, 3, 3⟩, rfl, ⟨em_nilP, h1⟩⟩) hob (by decide))
theorem five_blocks (w : World) (o1 o2 o3 o4 o5 : Obj) : (((((w.alloc o1).alloc o2).alloc o3).alloc o4).alloc o5).heap[w.heap.size]? = some o1 ∧ (((((w.alloc o1).alloc o2).alloc o3).alloc o4).alloc o5).heap[w.heap.size + 1]? = some o2 ∧ (((((w.alloc o1).alloc o2).alloc o3).alloc o4).alloc o5).heap[w.heap.size + 2]? = some o3 ∧ (((((w.alloc o1).alloc o2).alloc o3).alloc o4).alloc o5).heap[w.heap.size + 3]? = some o4 ∧ (((((w.alloc o1).alloc o2).alloc o3).alloc o4).alloc o5).heap[w.heap.size + 4]? = some o5 := by
  have k1 := heap_new w o1
  have s1 : (w.alloc o1).heap.size = w.heap.size + 1 := by simp
  generalize w.alloc o1 = w1 at k1 s1 ⊢
  have k2 := heap_new w1 o2
  have k12 := (Below.heap_alloc w1 o2 w.heap.size (by omega)).trans k1
  have s2 : (w1.alloc o2).heap.size = w.heap.size + 2 := by simp; omega
  rw [s1] at k2
  generalize w1.alloc o2 = w2 at k2 k12 s2 ⊢
  have k3 := heap_new w2 o3
  have k13 := (Below.heap_alloc w2 o3 w.heap.size (by omega)).trans k12
  have k23 := (Below.heap_alloc w2 o3 (w.heap.size + 1) (by omega)).trans k2
  have s3 : (w2.alloc o3).heap.size = w.heap.size + 3 := by simp; omega
  rw [s2] at k3
  generalize w2.alloc o3 = w3 at k3 k13 k23 s3 ⊢
  have k4 := heap_new w3 o4
  have k14 := (Below.heap_alloc w3 o4 w.heap.size (by omega)).trans k13
  have k24 := (Below.heap_alloc w3 o4 (w.heap.size + 1) (by omega)).trans k23
  have k34 := (Below.heap_alloc w3 o4 (w.heap.size + 2) (by omega)).trans k3
  have s4 : (w3.alloc o4).heap.size = w.heap.size + 4 := by simp; omega
  rw [s3] at k4
  generalize w3.alloc o4 = w4 at k4 k14 k24 k34 s4 ⊢
  have k5 := heap_new w4 o5
  rw [s4] at k5
  exact ⟨(Below.heap_alloc w4 o5 w.heap.size (by omega)).trans k14, (Below.heap_alloc w4 o5 (w.heap.size + 1) (by omega)).trans k24, (Below.heap_alloc w4 o5 (w.heap.size + 2) (by omega)).trans k34, (Below.heap_alloc w4 o5 (w.heap.size + 3) (by omega)).trans k4, k5⟩
set_option maxHeartbeats 8000000 in
theorem emitBegun5_any {w : World} (hK : GlobK w) : Calls Tryd.prog 5 #[] w fun e w' => e = .returned (.bool true) ∧ Below w.heap.size w w' := by
  obtain ⟨k1, k2, k3, k4, k5⟩ := five_blocks w (.cells #[.int .i64 1] 3 (0, 0)) (.cells #[.int .i64 5] 3 (0, 0)) (.cells #[.int .i64 2, .int .i64 0, .int .i64 1, .int .i64 0, .int .i64 1, .int .i64 0, .int .i64 0, .int .i64 2, .int .i64 6, .int .i64 1, .int .i64 0, .int .i64 0] 59 (0, 0)) (.cells #[.int .i64 1, .int .i64 0, .int .i64 0, .int .i64 5, .slice none 0 0, .slice (some ⟨w.heap.size + 2, 0, none⟩) 3 3] 62 (0, 0)) (.cells #[.int .i64 6, .slice (some ⟨w.heap.size, 0, none⟩) 1 1, .slice (some ⟨w.heap.size + 1, 0, none⟩) 1 1, .slice (some ⟨w.heap.size + 3, 0, none⟩) 1 1] 25 (0, 0))
  have b1 : Below w.heap.size w (((((w.alloc (.cells #[.int .i64 1] 3 (0, 0))).alloc (.cells #[.int .i64 5] 3 (0, 0))).alloc (.cells #[.int .i64 2, .int .i64 0, .int .i64 1, .int .i64 0, .int .i64 1, .int .i64 0, .int .i64 0, .int .i64 2, .int .i64 6, .int .i64 1, .int .i64 0, .int .i64 0] 59 (0, 0))).alloc (.cells #[.int .i64 1, .int .i64 0, .int .i64 0, .int .i64 5, .slice none 0 0, .slice (some ⟨w.heap.size + 2, 0, none⟩) 3 3] 62 (0, 0))).alloc (.cells #[.int .i64 6, .slice (some ⟨w.heap.size, 0, none⟩) 1 1, .slice (some ⟨w.heap.size + 1, 0, none⟩) 1 1, .slice (some ⟨w.heap.size + 3, 0, none⟩) 1 1] 25 (0, 0))) := (((((Below.refl _ _).alloc (Nat.le_refl _) _).alloc (by simp) _).alloc (by simp; omega) _).alloc (by simp; omega) _).alloc (by simp; omega) _
  have HK := hide (hK.under b1)
  clear hK
  go_enter Tryd.func5, Tryd.ntmps5
  go_upto_region 2 with fail
  generalize (((((w.alloc (.cells #[.int .i64 1] 3 (0, 0))).alloc (.cells #[.int .i64 5] 3 (0, 0))).alloc (.cells #[.int .i64 2, .int .i64 0, .int .i64 1, .int .i64 0, .int .i64 1, .int .i64 0, .int .i64 0, .int .i64 2, .int .i64 6, .int .i64 1, .int .i64 0, .int .i64 0] 59 (0, 0))).alloc (.cells #[.int .i64 1, .int .i64 0, .int .i64 0, .int .i64 5, .slice none 0 0, .slice (some ⟨w.heap.size + 2, 0, none⟩) 3 3] 62 (0, 0))).alloc (.cells #[.int .i64 6, .slice (some ⟨w.heap.size, 0, none⟩) 1 1, .slice (some ⟨w.heap.size + 1, 0, none⟩) 1 1, .slice (some ⟨w.heap.size + 3, 0, none⟩) 1 1] 25 (0, 0))) = w1 at b1 k1 k2 k3 k4 k5 HK ⊢
  have hL : HLp (fun _ => True) w1 (some ⟨w.heap.size, 0, none⟩) (some ⟨w.heap.size + 1, 0, none⟩) (some ⟨w.heap.size + 3, 0, none⟩) 1 1 1 Em.Lq := ⟨em_one k1 trivial, em_one k2 trivial, em_S k4 trivial (em_E k3 trivial), fun s hs => by
    have e : s = ⟨1, 0, 0, 5, [], [⟨2, 0, 1, 0⟩, ⟨1, 0, 0, 2⟩, ⟨6, 1, 0, 0⟩]⟩ := by simpa [Em.Lq] using hs
    subst e
    refine ⟨fun p hp => (by cases hp), fun p hp => ?_⟩
    simp at hp
    rcases hp with rfl | rfl | rfl <;> (unfold I64; dsimp only; omega)⟩
  have hM := make8_any (B := []) (okB := fun _ => True) (aB := none) (cB := 0) HK.out hL em_nilI (by decide) (by decide) (by decide) (by decide)
  have HM := hide hM
  clear hL hM k1 k2 k3 k4
  have c0 := cell_of k5 0
  have c1 := cell_of k5 1
  have c2 := cell_of k5 2
  have c3 := cell_of k5 3
  simp at c0 c1 c2 c3
  clear k5
  go_wp2_with fail
  refine HM.out.mono ?_
  rintro e w2 ⟨⟨aP, aB, aG, aL, cP, cB, cG, cL, he, -⟩, b2⟩
  rw [Em.make_q] at he
  have B2 := b1.trans (b2.mono b1.size)
  have he2 : e = .returned (.tuple #[.agg #[.int .i64 6, .int .i64 4, .int .i64 4, .slice aP 1 cP, .slice aB 0 cB, .slice aG 1 cG, .slice aL 4 cL], .agg #[.int .i64 0, .int .i64 0]]) := he
  clear he HM HK b1 b2 c0 c1 c2 c3
  subst he2
  go_wp2
  go_ret
  exact ⟨rfl, (B2.alloc B2.size _).alloc (by have := B2.size; simp; omega) _⟩
end Go.Proofs.YtbiomnnlpafciaaDoor
namespace Go.Proofs.YtbiomnnlpafciaaDoor
open Go.RowKit Go.IntWalk
set_option linter.unusedVariables false
set_option linter.unusedSimpArgs false
/-- an emitting in memory: block eb; its code lies in block k -/
structure EO (w : World) (eb k : Nat) (v : Value) (C : List Cd.In) : Prop where
  m : w.heap[eb]? = some (.cells #[v] 70 (0, 0))
  own : OwnC eb k w v C
  lt : k < w.heap.size
theorem EO.past {w w' : World} {cb k : Nat} {v : Value} {C : List Cd.In} (h : EO w cb k v C) {S : List Nat} (a : Aside S w.heap.size w w') (h1 : cb ∉ S) (h2 : k ∉ S) : EO w' cb k v C :=
  ⟨(a.block _ (lt_of h.m) h1).trans h.m, h.own.keep a.size (fun i hi hl => a.block i hl (by rw [hi.1]; exact h2)), Nat.lt_of_lt_of_le h.lt a.size⟩
theorem EO.under {w w' : World} {cb k : Nat} {v : Value} {C : List Cd.In} (h : EO w cb k v C) (b : Below w.heap.size w w') : EO w' cb k v C := h.past (aside (S := []) b) (by simp) (by simp)
structure EP (w : World) (cb k : Nat) (C : List Cd.In) (e : Ending) (w' : World) : Prop where
  e : e = .returned (.tuple #[])
  o : ∃ k' v', EO w' cb k' v' C ∧ (k' = k ∨ w.heap.size ≤ k')
  a : Aside [cb, k] w.heap.size w w'
set_option maxHeartbeats 8000000 in
theorem put57_any {w : World} {cb k : Nat} {v : Value} {C : List Cd.In} (h : EO w cb k v C) (hlen : C.length ≤ 900000) (op kk r a b n : Int) :
    Calls Tryd.prog 57 #[.pointer (some ⟨cb, 0, none⟩), .int .i64 op, .int .i64 kk, .int .i64 r, .int .i64 a, .int .i64 b, .int .i64 n] w (EP w cb k (C ++ [⟨op, kk, r, a, b, n⟩])) := by
  obtain ⟨av, cv, rfl, -, -⟩ := h.own.form
  have m0 := cell_of h.m 0
  have f0 := free_of h.m 0
  simp at m0
  have ycb := lt_of h.m
  have b2 : Below w.heap.size w (w.alloc (.cells #[.int .i64 op, .int .i64 kk, .int .i64 r, .int .i64 a, .int .i64 b, .int .i64 n] 72 (0, 0))) := (Below.refl _ _).alloc (Nat.le_refl _) _
  have hown := h.own.under b2
  have hrow := one_row (i := ⟨op, kk, r, a, b, n⟩) (ok := fun i => i = w.heap.size) (heap_new w (.cells #[.int .i64 op, .int .i64 kk, .int .i64 r, .int .i64 a, .int .i64 b, .int .i64 n] 72 (0, 0))) rfl
  have hkl := h.lt
  obtain ⟨v', w', h1, h2, h3, h4⟩ := run_joinO kIn 29 29 Tryd.underlying29 hown hrow (fun j hj hh => by have := (hown.lt j hj).1.1; omega) (by show (C.length + 1) * 48 ≤ _; omega) (by unfold maxLen; show C.length + 1 ≤ _; omega)
  obtain ⟨k2, hkk, hkn, hkl2⟩ : ∃ k2, (∀ j, v'.ownBlock = some j → j = k2 ∧ j ≠ cb) ∧ (k2 = k ∨ w.heap.size ≤ k2) ∧ k2 < w'.heap.size := by
    rcases h4 with h4 | ⟨q, hq, hq2⟩
    · exact ⟨k, fun j hj => (hown.lt j (h4 ▸ hj)).1, .inl rfl, Nat.lt_of_lt_of_le hkl (Nat.le_trans b2.size h3.size)⟩
    · exact ⟨q, fun j hj => by rw [hq] at hj; injection hj with hj; have := b2.size; omega, .inr (Nat.le_trans b2.size hq2), (h2.lt q hq).2⟩
  have h5 : OwnC cb k2 w' v' (C ++ [⟨op, kk, r, a, b, n⟩]) := ownX_plainE h2 hkk (fun _ _ _ _ _ h => h)
  have kb : w'.heap[cb]? = some (.cells #[.slice av C.length cv] 70 (0, 0)) := (h3.block cb (Nat.lt_of_lt_of_le ycb b2.size) (fun e => (hown.lt cb e.symm).1.2 rfl)).trans ((b2.block _ ycb).trans h.m)
  have aw : Aside [cb, k] w.heap.size w w' := (aside b2).trans (⟨h3.os, h3.tape, h3.output, h3.size, fun j hj hs => h3.block j hj (fun e => hs (by rw [(hown.lt j e.symm).1.1]; simp))⟩ : Aside [cb, k] (w.alloc (.cells #[.int .i64 op, .int .i64 kk, .int .i64 r, .int .i64 a, .int .i64 b, .int .i64 n] 72 (0, 0))).heap.size (w.alloc (.cells #[.int .i64 op, .int .i64 kk, .int .i64 r, .int .i64 a, .int .i64 b, .int .i64 n] 72 (0, 0))) w') b2.size
  obtain ⟨a5, c5, rfl, -, -⟩ := h2.form
  obtain ⟨ln, hln⟩ : ∃ ln, ln = (C ++ [(⟨op, kk, r, a, b, n⟩ : Cd.In)]).length := ⟨_, rfl⟩
  have hln' : (C.length + 1 : Nat) = ln := by rw [hln]; simp
  rw [← hln] at h1 h5
  have H5 := hide h5
  have KB := hide kb
  have AW := hide aw
  have d0 := cell_of kb 0
  have dd := free_of kb 0
  simp at d0
  have HKL := hide hkl2
  have HKN := hide hkn
  generalize hCl : C.length = lc at m0 h1 d0 KB
  have HL := hide (And.intro hCl hln)
  clear h h2 h3 h4 hkk hkn h5 kb aw hown hrow hkl2 hkl hln hln' hCl hlen
  go_enter Tryd.func57, Tryd.ntmps57
  go_wp2_with (at_builtin; refine wpList_joinO rfl _ _ 29 rfl _ _ _ (by rfl) (by rfl) h1 ?_; clear h1)
  have KS := set_in KB.out 0 (.slice a5 ln c5)
  simp at KS
  have AS := AW.out.trans (Aside.setCell (B := w.heap.size) (S := [cb, k]) (p := ⟨cb, 0, none⟩) (by simp) (.slice a5 ln c5)) (Nat.le_refl _)
  exact bodyPost_end (v := .tuple #[]) (by simp [results, Tryd.results57]) rfl ⟨rfl, ⟨k2, .slice a5 ln c5, ⟨KS, H5.out.set (p := ⟨cb, 0, none⟩) (fun e => e.2 rfl) _, by simpa [World.setCell] using HKL.out⟩, HKN.out⟩, AS⟩
end Go.Proofs.YtbiomnnlpafciaaDoor
