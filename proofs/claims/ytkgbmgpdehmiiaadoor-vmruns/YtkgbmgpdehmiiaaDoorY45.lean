import Derived.Test.YtkgbmgpdehmiiaaDoorY43
import Derived.WalkKit
import Derived.WalkSpells
import Derived.IntWalk
import Derived.Deep.Cut
import Derived.Deep.LoopGhost
import Derived.Laws.Cover1
import Derived.Lib.Hide
set_option linter.unusedVariables false
set_option linter.unusedSimpArgs false
set_option maxHeartbeats 64000000
set_option maxRecDepth 100000
namespace Go.Proofs.YtkgbmgpdehmiiaaDoor
open Go.RowKit Go.IntWalk
set_option linter.unusedVariables false
set_option linter.unusedSimpArgs false
set_option maxHeartbeats 8000000 in
theorem great6_any (c R k : Int) {aP aB aG aL : Option Addr} {nP nB nG nL cP cB cG cL : Nat} (w : World) : Calls Tryd.prog 6 #[.agg #[.int .i64 c, .int .i64 R, .int .i64 k, .slice aP nP cP, .slice aB nB cB, .slice aG nG cG, .slice aL nL cL]] w fun e w' => e = .returned (.bool (decide (7000 < (nP : Int)) || decide (7000 < (nB : Int)) || decide (20000 < (nG : Int)) || decide (20000 < (nL : Int)))) ∧ Below w.heap.size w w' := by
  have b1 : Below w.heap.size w (w.alloc (.cells #[.int .i64 c, .int .i64 R, .int .i64 k, .slice aP nP cP, .slice aB nB cB, .slice aG nG cG, .slice aL nL cL] 25 (0, 0))) := (Below.refl _ _).alloc (Nat.le_refl _) _
  by_cases h0 : 7000 < (nP : Int)
  case pos =>
    go_enter Tryd.func6, Tryd.ntmps6
    go_wp2
    go_ret
    exact ⟨by simp [h0], b1⟩
  by_cases h1 : 7000 < (nB : Int)
  case pos =>
    go_enter Tryd.func6, Tryd.ntmps6
    go_wp2
    go_ret
    exact ⟨by simp [h0, h1], b1⟩
  by_cases h2 : 20000 < (nG : Int)
  case pos =>
    go_enter Tryd.func6, Tryd.ntmps6
    go_wp2
    go_ret
    exact ⟨by simp [h0, h1, h2], b1⟩
  by_cases h3 : 20000 < (nL : Int)
  case pos =>
    go_enter Tryd.func6, Tryd.ntmps6
    go_wp2
    go_ret
    exact ⟨by simp [h0, h1, h2, h3], b1⟩
  go_enter Tryd.func6, Tryd.ntmps6
  go_wp2
  go_ret
  exact ⟨by simp [h0, h1, h2, h3], b1⟩
namespace Em
def Vi : List Cd.In := [⟨2, 0, 0, 0, 0, 1⟩, ⟨1, 0, 1, 0, 0, 2⟩, ⟨7, 1, 0, 0, 1, 0⟩, ⟨4, 0, 0, 0, 0, 5⟩]
def Vm0 : Cd.Im := ⟨6, 2, 4, [1], [], [5], Vi⟩
theorem vm0_fault : Cd.fault Vm0 = (0, 0) := by kernel_rfl
theorem vm0_run : ∃ R, allF Vi 0 ⟨fun _ => 0, Lo.putL (List.replicate 6 0) [1] [7]⟩ 0 = ⟨⟨R, [0, 7, 0, 0, 0, 9]⟩, 4, -1⟩ := by
  refine ⟨upd (upd (upd (fun _ => 0) 0 7) 1 2) 0 9, ?_⟩
  unfold Vi
  rw [allF_some (s' := ⟨upd (fun _ => 0) 0 7, [0, 7, 0, 0, 0, 0]⟩) (by decide) rfl]
  rw [allF_some (s' := ⟨upd (upd (fun _ => 0) 0 7) 1 2, [0, 7, 0, 0, 0, 0]⟩) (by decide) rfl]
  rw [allF_some (s' := ⟨upd (upd (upd (fun _ => 0) 0 7) 1 2) 0 9, [0, 7, 0, 0, 0, 0]⟩) (by decide) (by kernel_rfl)]
  rw [allF_some (s' := ⟨upd (upd (upd (fun _ => 0) 0 7) 1 2) 0 9, [0, 7, 0, 0, 0, 9]⟩) (by decide) (by kernel_rfl)]
  rw [allF_nil]
  have e : wrap64 (wrap64 (wrap64 (wrap64 (0 + 1) + 1) + 1) + 1) = 4 := by unfold wrap64; omega
  rw [e]
end Em
theorem vm_one {ok : Nat → Prop} {w : World} {b : Nat} {ty : TypeId} {x : Int} (k : w.heap[b]? = some (.cells #[.int .i64 x] ty (0, 0))) (hob : ok b) : HInts ok w (.slice (some ⟨b, 0, none⟩) 1 1) [x] :=
  longs_row (blk_row kLong (l := [x]) k (fun _ => [.int .i64 x]) (fun i hi => ⟨rfl, fun j hj => by
    have h1 : i = 0 := by simpa using hi
    have h2 : j = 0 := by have : j < 1 := hj; omega
    subst h1 h2
    rfl⟩) (fun i hi => by
    have h1 : i = 0 := by simpa using hi
    subst h1
    rfl) hob (show 1 ≤ maxLen by decide))
theorem vm_nilI {ok : Nat → Prop} {w : World} : HInts ok w (.slice none 0 0) [] := ⟨fun _ => [], ⟨none, 0, rfl, Nat.le_refl _, by decide, fun h => absurd h (by decide)⟩, fun j hj => absurd hj (Nat.not_lt_zero _)⟩
theorem vm_ins {ok : Nat → Prop} {w : World} {b : Nat} (k : w.heap[b]? = some (.cells #[.int .i64 2, .int .i64 0, .int .i64 0, .int .i64 0, .int .i64 0, .int .i64 1, .int .i64 1, .int .i64 0, .int .i64 1, .int .i64 0, .int .i64 0, .int .i64 2, .int .i64 7, .int .i64 1, .int .i64 0, .int .i64 0, .int .i64 1, .int .i64 0, .int .i64 4, .int .i64 0, .int .i64 0, .int .i64 0, .int .i64 0, .int .i64 5] 52 (0, 0))) (hob : ok b) : HIns ok w (.slice (some ⟨b, 0, none⟩) 4 4) Em.Vi :=
  blk_row kIn (l := Em.Vi) k (fun i => (Em.Vi.getD i ⟨0, 0, 0, 0, 0, 0⟩).cs) (fun i hi => by
    rcases lt4 (show i < 4 from hi) with rfl | rfl | rfl | rfl
    all_goals (refine ⟨rfl, fun j hj => ?_⟩; rcases lt6 (show j < 6 from hj) with rfl | rfl | rfl | rfl | rfl | rfl <;> rfl)) (fun i hi => by
    rcases lt4 (show i < 4 from hi) with rfl | rfl | rfl | rfl
    all_goals rfl) hob (by decide)
/-- what a row asks of an image that may be run -/
theorem Cd.row_of {m : Cd.Im} (h : (Cd.fault m).1 = 0) (hb : ∀ i ∈ m.l, I64 i.b) (hn : ∀ i ∈ m.l, I64 i.n) : ∃ nc nr : Nat, m.c = (nc : Int) ∧ m.c.toNat = nc ∧ (1 ≤ nc ∧ nc ≤ 6000) ∧ nr ≤ 40 ∧ (∀ x ∈ m.l, InOk nc nr x) ∧ Cd.go 10 11 none m.l ≠ none ∧ (∀ p ∈ m.P, 0 ≤ p ∧ p < (nc : Int)) ∧ (∀ p ∈ m.G, 0 ≤ p ∧ p < (nc : Int)) ∧ m.P.length ≤ 6000 ∧ m.G.length ≤ 120000 ∧ m.l.length ≤ 200000 := by
  obtain ⟨⟨h1, h2, h3, h4⟩, ⟨h5, h6, h7, h8⟩, h9, h10, h11, h12, h13, h14⟩ := Cd.good_of h
  have e1 : ((m.c.toNat : Nat) : Int) = m.c := by omega
  have e2 : ((m.R.toNat : Nat) : Int) = m.R := by omega
  refine ⟨m.c.toNat, m.R.toNat, e1.symm, rfl, ⟨by omega, by omega⟩, by omega, fun x hx => ⟨⟨by rw [e1, e2]; exact h12 x hx, hb x hx⟩, hn x hx⟩, h14, fun p hp => ?_, fun p hp => ?_, h5, h7, h8⟩
  · have := h9 p hp
    omega
  · have := h11 p hp
    omega
theorem steps_at {ok : Nat → Prop} {w : World} {vb : Nat} {P G : List Int} {C : List Cd.In} {f : Int → Bool} {nc : Nat} {M : List Int} {st : Int} (h : VAt ok w vb P G C f nc M st) : Calls Tryd.prog 16 #[.pointer (some ⟨vb, 0, none⟩)] w fun e w' => e = .returned (.int .i64 st) ∧ Below w.heap.size w w' := by
  obtain ⟨aP, cP, aG, cG, tb, tc, aL, cL, cb, cc, k, -⟩ := h.x
  exact (steps16_any k).mono (by rintro e w' ⟨rfl, rfl⟩; exact ⟨rfl, Below.refl _ _⟩)
theorem cells_at {ok : Nat → Prop} {w : World} {vb : Nat} {P G : List Int} {C : List Cd.In} {f : Int → Bool} {nc : Nat} {M : List Int} {st : Int} (h : VAt ok w vb P G C f nc M st) (hnc : 1 ≤ nc ∧ nc ≤ 6000) : Calls Tryd.prog 17 #[.pointer (some ⟨vb, 0, none⟩)] w fun e w' => ∃ a c, e = .returned (.slice a nc c) ∧ HInts (fun i => w.heap.size ≤ i) w' (.slice a nc c) M ∧ Below w.heap.size w w' := by
  obtain ⟨aP, cP, aG, cG, tb, tc, aL, cL, cb, cc, k, k2, k3, k4, k5, k6, k7, k8, k9, k10⟩ := h.x
  have hl := h.l
  refine (cells17_vm k k7 hl.symm k9 k10 (fun e => by rw [e] at hl; simp at hl; omega) (by omega)).mono ?_
  rintro e w' ⟨g', c', rfl, q1, q2, q3, q4, q5⟩
  have hi := q4.ints q2 q3 (ok := fun i => w.heap.size ≤ i) q1
  rw [hl] at hi
  exact ⟨some ⟨g', 0, none⟩, c', by rw [hl], hi, q5⟩
theorem three_blocks (w : World) (o1 o2 o3 : Obj) : (((w.alloc o1).alloc o2).alloc o3).heap[w.heap.size]? = some o1 ∧ (((w.alloc o1).alloc o2).alloc o3).heap[w.heap.size + 1]? = some o2 ∧ (((w.alloc o1).alloc o2).alloc o3).heap[w.heap.size + 2]? = some o3 := by
  have k1 := heap_new w o1
  have s1 : (w.alloc o1).heap.size = w.heap.size + 1 := by simp
  generalize w.alloc o1 = w1 at k1 s1 ⊢
  have k2 := heap_new w1 o2
  have k12 := (Below.heap_alloc w1 o2 w.heap.size (by omega)).trans k1
  have s2 : (w1.alloc o2).heap.size = w.heap.size + 2 := by simp; omega
  rw [s1] at k2
  generalize w1.alloc o2 = w2 at k2 k12 s2 ⊢
  have k3 := heap_new w2 o3
  have k13 := (Below.heap_alloc w2 o3 w.heap.size (by omega)).trans k12
  have k23 := (Below.heap_alloc w2 o3 (w.heap.size + 1) (by omega)).trans k2
  rw [s2] at k3
  exact ⟨k13, k23, k3⟩
set_option maxHeartbeats 16000000 in
theorem vmBegun5_any {w : World} (hK : GlobK w) : Calls Tryd.prog 5 #[] w fun e w' => e = .returned (.bool true) ∧ Below w.heap.size w w' := by
  obtain ⟨k1, k2, k3⟩ := three_blocks w (.cells #[.int .i64 2, .int .i64 0, .int .i64 0, .int .i64 0, .int .i64 0, .int .i64 1, .int .i64 1, .int .i64 0, .int .i64 1, .int .i64 0, .int .i64 0, .int .i64 2, .int .i64 7, .int .i64 1, .int .i64 0, .int .i64 0, .int .i64 1, .int .i64 0, .int .i64 4, .int .i64 0, .int .i64 0, .int .i64 0, .int .i64 0, .int .i64 5] 52 (0, 0)) (.cells #[.int .i64 1] 3 (0, 0)) (.cells #[.int .i64 5] 3 (0, 0))
  have b1 : Below w.heap.size w (((w.alloc (.cells #[.int .i64 2, .int .i64 0, .int .i64 0, .int .i64 0, .int .i64 0, .int .i64 1, .int .i64 1, .int .i64 0, .int .i64 1, .int .i64 0, .int .i64 0, .int .i64 2, .int .i64 7, .int .i64 1, .int .i64 0, .int .i64 0, .int .i64 1, .int .i64 0, .int .i64 4, .int .i64 0, .int .i64 0, .int .i64 0, .int .i64 0, .int .i64 5] 52 (0, 0))).alloc (.cells #[.int .i64 1] 3 (0, 0))).alloc (.cells #[.int .i64 5] 3 (0, 0))) := (((Below.refl _ _).alloc (Nat.le_refl _) _).alloc (by simp) _).alloc (by simp; omega) _
  have hm : HIm (fun _ => True) (((w.alloc (.cells #[.int .i64 2, .int .i64 0, .int .i64 0, .int .i64 0, .int .i64 0, .int .i64 1, .int .i64 1, .int .i64 0, .int .i64 1, .int .i64 0, .int .i64 0, .int .i64 2, .int .i64 7, .int .i64 1, .int .i64 0, .int .i64 0, .int .i64 1, .int .i64 0, .int .i64 4, .int .i64 0, .int .i64 0, .int .i64 0, .int .i64 0, .int .i64 5] 52 (0, 0))).alloc (.cells #[.int .i64 1] 3 (0, 0))).alloc (.cells #[.int .i64 5] 3 (0, 0))) (some ⟨w.heap.size + 1, 0, none⟩) none (some ⟨w.heap.size + 2, 0, none⟩) (some ⟨w.heap.size, 0, none⟩) 1 0 1 4 Em.Vm0 := ⟨vm_one k2 trivial, vm_nilI, vm_one k3 trivial, vm_ins k1 trivial, fun i hi => by
    have hi2 : i ∈ Em.Vi := hi
    simp [Em.Vi] at hi2
    rcases hi2 with rfl | rfl | rfl | rfl <;> (unfold I64; dsimp only; omega)⟩
  have hnew := new10_any (hK.under b1) hm
  have HNEW := hide (show Calls Tryd.prog 10 #[.agg #[.int .i64 6, .int .i64 2, .int .i64 4, .slice (some ⟨w.heap.size + 1, 0, none⟩) 1 1, .slice none 0 0, .slice (some ⟨w.heap.size + 2, 0, none⟩) 1 1, .slice (some ⟨w.heap.size, 0, none⟩) 4 4]] (((w.alloc (.cells #[.int .i64 2, .int .i64 0, .int .i64 0, .int .i64 0, .int .i64 0, .int .i64 1, .int .i64 1, .int .i64 0, .int .i64 1, .int .i64 0, .int .i64 0, .int .i64 2, .int .i64 7, .int .i64 1, .int .i64 0, .int .i64 0, .int .i64 1, .int .i64 0, .int .i64 4, .int .i64 0, .int .i64 0, .int .i64 0, .int .i64 0, .int .i64 5] 52 (0, 0))).alloc (.cells #[.int .i64 1] 3 (0, 0))).alloc (.cells #[.int .i64 5] 3 (0, 0))) (NewP (((w.alloc (.cells #[.int .i64 2, .int .i64 0, .int .i64 0, .int .i64 0, .int .i64 0, .int .i64 1, .int .i64 1, .int .i64 0, .int .i64 1, .int .i64 0, .int .i64 0, .int .i64 2, .int .i64 7, .int .i64 1, .int .i64 0, .int .i64 0, .int .i64 1, .int .i64 0, .int .i64 4, .int .i64 0, .int .i64 0, .int .i64 0, .int .i64 0, .int .i64 5] 52 (0, 0))).alloc (.cells #[.int .i64 1] 3 (0, 0))).alloc (.cells #[.int .i64 5] 3 (0, 0))) Em.Vm0) from hnew)
  have B1 := hide b1
  have hrow := Cd.row_of (m := Em.Vm0) (by rw [Em.vm0_fault]) hm.W (fun i hi => by
    have hi2 : i ∈ Em.Vi := hi
    simp [Em.Vi] at hi2
    rcases hi2 with rfl | rfl | rfl | rfl <;> (unfold I64; dsimp only; omega))
  obtain ⟨nc, nr, hr1, hr2, hr3, hr4, hr5, hr6, hr7, hr8, hr9, hr10, hr11⟩ := hrow
  have hnc6 : nc = 6 := by
    have : Em.Vm0.c = 6 := rfl
    omega
  subst hnc6
  have HR := hide (And.intro hr3 (And.intro hr4 (And.intro hr5 (And.intro hr6 (And.intro hr7 (And.intro hr8 (And.intro hr9 (And.intro hr10 hr11))))))))
  clear hK hm hnew k1 k2 k3 b1 hr1 hr2 hr3 hr4 hr5 hr6 hr7 hr8 hr9 hr10 hr11
  go_enter Tryd.func5, Tryd.ntmps5
  go_wp2_with fail
  refine HNEW.out.mono ?_
  rintro e w2 hp
  obtain ⟨vb, hvb, ee, hV⟩ := hp.good (by rw [Em.vm0_fault])
  have b2 := hp.b
  have B2 := B1.out.trans (b2.mono B1.out.size)
  have hVl := hV.lt
  have hvw : w.heap.size ≤ vb := Nat.le_trans B1.out.size hvb
  clear hvb
  have hV2 : VAt (fun i => i ≠ vb) w2 vb [1] [5] Em.Vi (fun j => decide (j ∈ ([] : List Int))) 6 (List.replicate 6 0) 0 := hV.wide (fun i h _ => h.2)
  have HV := hide hV2
  clear hp HNEW hV hV2 b2 B1
  subst ee
  have b3 : Below w2.heap.size w2 (w2.alloc (.cells #[.int .i64 0, .int .i64 0] 34 (0, 0))) := (Below.refl _ _).alloc (Nat.le_refl _) _
  have k3 := heap_new w2 (.cells #[.int .i64 0, .int .i64 0] 34 (0, 0))
  go_upto_region 3 with fail
  generalize w2.alloc (.cells #[.int .i64 0, .int .i64 0] 34 (0, 0)) = w3 at b3 k3 ⊢
  have B3 := B2.trans (b3.mono B2.size)
  have HV3 := hide (HV.out.below b3)
  have h0 := cell_of k3 0
  have h1 := cell_of k3 1
  simp at h0 h1
  have y3 := lt_of k3
  clear b3 B2 HV
  have b4 : Below w3.heap.size w3 (w3.alloc (.cells #[.int .i64 7] 2 (0, 0))) := (Below.refl _ _).alloc (Nat.le_refl _) _
  have k4 := heap_new w3 (.cells #[.int .i64 7] 2 (0, 0))
  have hV4 := HV3.out.below b4
  have hR := row13_any (okI := fun _ => True) (nr := nr) (X := [7]) (cI := 1) (aI := some ⟨w3.heap.size, 0, none⟩) hV4 (fun i h => h) (fun i hi => by have := hV4.lt; omega) (vm_one k4 trivial) HR.out.1 HR.out.2.1 HR.out.2.2.1 HR.out.2.2.2.1 (fun x hx => by rw [List.eq_of_mem_replicate hx]; unfold I64; omega) (fun x hx => by rw [List.mem_singleton.1 hx]; unfold I64; omega) HR.out.2.2.2.2.1 HR.out.2.2.2.2.2.1 HR.out.2.2.2.2.2.2.1 HR.out.2.2.2.2.2.2.2.1 HR.out.2.2.2.2.2.2.2.2
  have HROW := hide (show Calls Tryd.prog 13 #[.pointer (some ⟨vb, 0, none⟩), .slice (some ⟨w3.heap.size, 0, none⟩) 1 1] (w3.alloc (.cells #[.int .i64 7] 2 (0, 0))) _ from hR)
  have B4 := hide (B3.trans (b4.mono B3.size))
  clear hR hV4 b4 k4 HR HV3 B3
  go_wp2_with fail
  refine HROW.out.mono ?_
  rintro e w5 hp
  obtain ⟨R, hrun⟩ := Em.vm0_run
  have hg := hp.good (by rfl)
  rw [hrun] at hg
  obtain ⟨v, ee, own, hv, -, a5⟩ := hg (by show (-1 : Int) < 0; decide)
  have hst : (wrap64 (0 + 4)) = 4 := by unfold wrap64; omega
  dsimp only at own hv
  rw [hst] at hv
  have ho : HInts _ w5 v [9] := ints_row own.row
  obtain ⟨av, cv, rfl, -, -⟩ := own.form
  have hvl := hv.lt
  have b5 : Below w.heap.size w w5 := aside_low B4.out a5 (Nat.le_refl _) (by simp; omega)
  have HO := hide ho
  have HV5 := hide hv
  have B5 := hide b5
  clear hp hg hrun own ho hv a5 b5 B4 HROW k3 h0 h1 y3 hst
  subst ee
  have b6 : Below w5.heap.size w5 (w5.alloc (.cells #[.int .i64 0, .int .i64 0] 34 (0, 0))) := (Below.refl _ _).alloc (Nat.le_refl _) _
  have k6 := heap_new w5 (.cells #[.int .i64 0, .int .i64 0] 34 (0, 0))
  go_upto_region 6 with fail
  generalize w5.alloc (.cells #[.int .i64 0, .int .i64 0] 34 (0, 0)) = w6 at b6 k6 ⊢
  have B6 := hide (B5.out.trans (b6.mono B5.out.size))
  have h0 := cell_of k6 0
  have h1 := cell_of k6 1
  simp at h0 h1
  have y6 := lt_of k6
  have b7 : Below w6.heap.size w6 (w6.alloc (.cells #[.int .i64 9] 2 (0, 0))) := (Below.refl _ _).alloc (Nat.le_refl _) _
  have k7 := heap_new w6 (.cells #[.int .i64 9] 2 (0, 0))
  have HSL := hide (sameLongs_same ((HO.out.below b6).below b7) (vm_one (ok := fun _ => True) k7 trivial))
  have HV7 := hide ((HV5.out.below b6).below b7)
  have B7 := hide (B6.out.trans (b7.mono B6.out.size))
  clear b6 k6 b7 k7 HO HV5 B5 B6
  go_wp2_with fail
  refine HSL.out.mono ?_
  rintro e w8 ⟨rfl, b8⟩
  have HST := hide (steps_at (HV7.out.below b8))
  have B8 := hide (B7.out.trans (b8.mono B7.out.size))
  clear HV7 B7 b8 HSL h0 h1
  go_wp2_with fail
  refine HST.out.mono ?_
  rintro e w9 ⟨rfl, b9⟩
  have B9 := B8.out.trans (b9.mono B8.out.size)
  clear HST B8 b9
  go_wp2
  go_ret
  exact ⟨rfl, B9⟩
end Go.Proofs.YtkgbmgpdehmiiaaDoor
