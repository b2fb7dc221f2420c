import Derived.Test.YtfipfdpohkafaaaDoorP48
import Derived.Test.YtfipfdpohkafaaaDoorP45
import Derived.Test.YtfipfdpohkafaaaDoorP44
import Derived.WalkKit
import Derived.WalkSpells
import Derived.IntWalk
import Derived.Deep.Cut
import Derived.Deep.LoopGhost
import Derived.Laws.Cover1
import Derived.Lib.Hide
set_option linter.unusedVariables false
set_option linter.unusedSimpArgs false
set_option maxHeartbeats 64000000
set_option maxRecDepth 100000
namespace Go.Proofs.YtfipfdpohkafaaaDoor
open Go.RowKit Go.IntWalk
set_option linter.unusedVariables false
set_option linter.unusedSimpArgs false
namespace Cd
def L1 : List In := [⟨1, 0, 0, 0, 0, 0⟩, ⟨10, 0, 0, 0, 0, 3⟩, ⟨9, 0, 0, 0, 0, 0⟩, ⟨11, 0, 0, 0, 0, 0⟩, ⟨4, 0, 0, 0, 0, 0⟩]
theorem L1_cost : cost 10 11 L1 = 9 := by decide +kernel
theorem L1_fault : fault ⟨1, 1, 9, [], [], [], L1⟩ = (0, 0) := by decide +kernel
theorem lt5 {i : Nat} (h : i < 5) : i = 0 ∨ i = 1 ∨ i = 2 ∨ i = 3 ∨ i = 4 := by omega
end Cd
theorem l1_row {ok : Nat → Prop} {w : World} {b : Nat} (k : w.heap[b]? = some (.cells #[.int .i64 1, .int .i64 0, .int .i64 0, .int .i64 0, .int .i64 0, .int .i64 0, .int .i64 10, .int .i64 0, .int .i64 0, .int .i64 0, .int .i64 0, .int .i64 3, .int .i64 9, .int .i64 0, .int .i64 0, .int .i64 0, .int .i64 0, .int .i64 0, .int .i64 11, .int .i64 0, .int .i64 0, .int .i64 0, .int .i64 0, .int .i64 0, .int .i64 4, .int .i64 0, .int .i64 0, .int .i64 0, .int .i64 0, .int .i64 0] 35 (0, 0))) (hob : ok b) : HIns ok w (.slice (some ⟨b, 0, none⟩) 5 5) Cd.L1 :=
  blk_row kIn (l := Cd.L1) k (fun i => (Cd.L1.getD i ⟨0, 0, 0, 0, 0, 0⟩).cs) (fun i hi => by
    rcases Cd.lt5 (show i < 5 from hi) with rfl | rfl | rfl | rfl | rfl
    all_goals exact ⟨rfl, fun j hj => by
      rcases lt6 (show j < 6 from hj) with rfl | rfl | rfl | rfl | rfl | rfl <;> rfl⟩) (fun i hi => by
    rcases Cd.lt5 (show i < 5 from hi) with rfl | rfl | rfl | rfl | rfl <;> rfl) hob (show 5 ≤ maxLen by decide)
set_option maxHeartbeats 8000000 in
theorem codeBegun5_any {w : World} (hK : GlobK w) : Calls Tryd.prog 5 #[] w fun e w' => e = .returned (.bool true) ∧ Below w.heap.size w w' := by
  have b1 : Below w.heap.size w (w.alloc (.cells #[.int .i64 1, .int .i64 0, .int .i64 0, .int .i64 0, .int .i64 0, .int .i64 0, .int .i64 10, .int .i64 0, .int .i64 0, .int .i64 0, .int .i64 0, .int .i64 3, .int .i64 9, .int .i64 0, .int .i64 0, .int .i64 0, .int .i64 0, .int .i64 0, .int .i64 11, .int .i64 0, .int .i64 0, .int .i64 0, .int .i64 0, .int .i64 0, .int .i64 4, .int .i64 0, .int .i64 0, .int .i64 0, .int .i64 0, .int .i64 0] 35 (0, 0))) := (Below.refl _ _).alloc (Nat.le_refl _) _
  have k1 := heap_new w (.cells #[.int .i64 1, .int .i64 0, .int .i64 0, .int .i64 0, .int .i64 0, .int .i64 0, .int .i64 10, .int .i64 0, .int .i64 0, .int .i64 0, .int .i64 0, .int .i64 3, .int .i64 9, .int .i64 0, .int .i64 0, .int .i64 0, .int .i64 0, .int .i64 0, .int .i64 11, .int .i64 0, .int .i64 0, .int .i64 0, .int .i64 0, .int .i64 0, .int .i64 4, .int .i64 0, .int .i64 0, .int .i64 0, .int .i64 0, .int .i64 0] 35 (0, 0))
  have HL := hide (l1_row (ok := fun _ => True) k1 trivial)
  have H10 := hide (fun (W : World) (b : Below (w.alloc (.cells #[.int .i64 1, .int .i64 0, .int .i64 0, .int .i64 0, .int .i64 0, .int .i64 0, .int .i64 10, .int .i64 0, .int .i64 0, .int .i64 0, .int .i64 0, .int .i64 3, .int .i64 9, .int .i64 0, .int .i64 0, .int .i64 0, .int .i64 0, .int .i64 0, .int .i64 11, .int .i64 0, .int .i64 0, .int .i64 0, .int .i64 0, .int .i64 0, .int .i64 4, .int .i64 0, .int .i64 0, .int .i64 0, .int .i64 0, .int .i64 0] 35 (0, 0))).heap.size (w.alloc (.cells #[.int .i64 1, .int .i64 0, .int .i64 0, .int .i64 0, .int .i64 0, .int .i64 0, .int .i64 10, .int .i64 0, .int .i64 0, .int .i64 0, .int .i64 0, .int .i64 3, .int .i64 9, .int .i64 0, .int .i64 0, .int .i64 0, .int .i64 0, .int .i64 0, .int .i64 11, .int .i64 0, .int .i64 0, .int .i64 0, .int .i64 0, .int .i64 0, .int .i64 4, .int .i64 0, .int .i64 0, .int .i64 0, .int .i64 0, .int .i64 0] 35 (0, 0))) W) => (show Calls Tryd.prog 10 #[.slice (some ⟨w.heap.size, 0, none⟩) 5 5] W fun e w' => e = .returned (.int .i64 9) ∧ Below W.heap.size W w' by
    have h := cost10_any (ok := fun _ => True) (aL := some ⟨w.heap.size, 0, none⟩) (cL := 5) (l := Cd.L1) (w := W) (HL.out.under b) (by decide)
    rw [Cd.L1_cost] at h
    exact h))
  have nil : ∀ W : World, HInts (fun _ => True) W (.slice none 0 0) [] := fun W => ⟨fun _ => [], ⟨none, 0, rfl, Nat.zero_le _, Nat.zero_le _, fun h => absurd h (by decide)⟩, fun i h => absurd h (Nat.not_lt_zero _)⟩
  have H8 := hide (fun (W : World) (b : Below (w.alloc (.cells #[.int .i64 1, .int .i64 0, .int .i64 0, .int .i64 0, .int .i64 0, .int .i64 0, .int .i64 10, .int .i64 0, .int .i64 0, .int .i64 0, .int .i64 0, .int .i64 3, .int .i64 9, .int .i64 0, .int .i64 0, .int .i64 0, .int .i64 0, .int .i64 0, .int .i64 11, .int .i64 0, .int .i64 0, .int .i64 0, .int .i64 0, .int .i64 0, .int .i64 4, .int .i64 0, .int .i64 0, .int .i64 0, .int .i64 0, .int .i64 0] 35 (0, 0))).heap.size (w.alloc (.cells #[.int .i64 1, .int .i64 0, .int .i64 0, .int .i64 0, .int .i64 0, .int .i64 0, .int .i64 10, .int .i64 0, .int .i64 0, .int .i64 0, .int .i64 0, .int .i64 3, .int .i64 9, .int .i64 0, .int .i64 0, .int .i64 0, .int .i64 0, .int .i64 0, .int .i64 11, .int .i64 0, .int .i64 0, .int .i64 0, .int .i64 0, .int .i64 0, .int .i64 4, .int .i64 0, .int .i64 0, .int .i64 0, .int .i64 0, .int .i64 0] 35 (0, 0))) W) => (show Calls Tryd.prog 8 #[.agg #[.int .i64 1, .int .i64 1, .int .i64 9, .slice none 0 0, .slice none 0 0, .slice none 0 0, .slice (some ⟨w.heap.size, 0, none⟩) 5 5]] W fun e w' => e = .returned (.agg #[.int .i64 0, .int .i64 0]) ∧ Below W.heap.size W w' by
    have h := check8_any (m := ⟨1, 1, 9, [], [], [], Cd.L1⟩) (aP := none) (aB := none) (aG := none) (aL := some ⟨w.heap.size, 0, none⟩) (cP := 0) (cB := 0) (cG := 0) (cL := 5) ((hK.under b1).under b) ⟨nil W, nil W, nil W, HL.out.under b, by
      intro i hi
      simp only [Cd.L1, List.mem_cons, List.not_mem_nil, or_false] at hi
      rcases hi with rfl | rfl | rfl | rfl | rfl <;> exact ⟨by decide, by decide⟩⟩
    rw [Cd.L1_fault] at h
    exact h))
  clear hK HL nil
  go_enter Tryd.func5, Tryd.ntmps5
  go_upto_region 2 with fail
  generalize w.alloc (.cells #[.int .i64 1, .int .i64 0, .int .i64 0, .int .i64 0, .int .i64 0, .int .i64 0, .int .i64 10, .int .i64 0, .int .i64 0, .int .i64 0, .int .i64 0, .int .i64 3, .int .i64 9, .int .i64 0, .int .i64 0, .int .i64 0, .int .i64 0, .int .i64 0, .int .i64 11, .int .i64 0, .int .i64 0, .int .i64 0, .int .i64 0, .int .i64 0, .int .i64 4, .int .i64 0, .int .i64 0, .int .i64 0, .int .i64 0, .int .i64 0] 35 (0, 0)) = w1 at b1 k1 H10 H8 ⊢
  clear k1
  go_wp2_with fail
  refine (H10.out w1 (Below.refl _ _)).mono ?_
  rintro e w2 ⟨rfl, b2⟩
  go_wp2_with fail
  refine (H8.out w2 b2).mono ?_
  rintro e w3 ⟨rfl, b3⟩
  have B3 := (b1.trans (b2.mono b1.size)).trans (b3.mono (b1.trans (b2.mono b1.size)).size)
  have hfld : ∀ W, (Instr.field 30 (.agg #[.int .i64 0, .int .i64 0]) 0).run Tryd.prog W = .ok (.int .i64 0) W := fun W => by kernel_rfl
  go_wp2
  go_ret
  exact ⟨rfl, B3⟩
set_option maxHeartbeats 16000000 in
theorem codeChecks3_any {ok : Nat → Prop} {w : World} {aP aB aG aL : Option Addr} {cP cB cG cL : Nat} {m : Cd.Im} (hK : GlobK w) (hm : HIm ok w aP aB aG aL cP cB cG cL m) : Calls Tryd.prog 3 #[.agg #[.int .i64 m.c, .int .i64 m.R, .int .i64 m.cost, .slice aP m.P.length cP, .slice aB m.B.length cB, .slice aG m.G.length cG, .slice aL m.l.length cL]] w fun e w' => e = .returned (.bool true) ∧ Below w.heap.size w w' := by
  have b1 : Below w.heap.size w (w.alloc (.cells #[.int .i64 m.c, .int .i64 m.R, .int .i64 m.cost, .slice aP m.P.length cP, .slice aB m.B.length cB, .slice aG m.G.length cG, .slice aL m.l.length cL] 25 (0, 0))) := (Below.refl _ _).alloc (Nat.le_refl _) _
  have kL := heap_new w (.cells #[.int .i64 m.c, .int .i64 m.R, .int .i64 m.cost, .slice aP m.P.length cP, .slice aB m.B.length cB, .slice aG m.G.length cG, .slice aL m.l.length cL] 25 (0, 0))
  have HK := hide hK
  have HL := hide hm
  clear hK hm
  go_enter Tryd.func3, Tryd.ntmps3
  go_upto_region 1 with fail
  generalize (w.alloc (.cells #[.int .i64 m.c, .int .i64 m.R, .int .i64 m.cost, .slice aP m.P.length cP, .slice aB m.B.length cB, .slice aG m.G.length cG, .slice aL m.l.length cL] 25 (0, 0))) = w1 at b1 kL ⊢
  go_wp2_with fail
  refine (codeBegun5_any (HK.out.under b1)).mono ?_
  rintro e w2 ⟨rfl, b2⟩
  have B2 := b1.trans (b2.mono b1.size)
  have kL2 := (b2.block _ (lt_of kL)).trans kL
  have s0 := cell_of kL2 0
  have s1 := cell_of kL2 1
  have s2 := cell_of kL2 2
  have s3 := cell_of kL2 3
  have s4 := cell_of kL2 4
  have s5 := cell_of kL2 5
  have s6 := cell_of kL2 6
  simp at s0 s1 s2 s3 s4 s5 s6
  go_wp2_with fail
  refine (great6_any m.c m.R m.cost _).mono ?_
  rintro e w3 ⟨rfl, b3⟩
  have B3 := B2.trans (b3.mono B2.size)
  have kL3 := (b3.block _ (lt_of kL2)).trans kL2
  clear s0 s1 s2 s3 s4 s5 s6 kL kL2
  have s0 := cell_of kL3 0
  have s1 := cell_of kL3 1
  have s2 := cell_of kL3 2
  have s3 := cell_of kL3 3
  have s4 := cell_of kL3 4
  have s5 := cell_of kL3 5
  have s6 := cell_of kL3 6
  simp at s0 s1 s2 s3 s4 s5 s6
  have yL := lt_of kL3
  obtain ⟨q, hq⟩ : ∃ q, q = (decide (7000 < (m.P.length : Int)) || decide (7000 < (m.B.length : Int)) || decide (20000 < (m.G.length : Int)) || decide (20000 < (m.l.length : Int))) := ⟨_, rfl⟩
  rw [← hq]
  cases q
  case true =>
    clear hq
    go_wp2
    go_ret
    exact ⟨rfl, B3⟩
  case false =>
    have hq2 : m.P.length ≤ 7000 ∧ m.B.length ≤ 7000 ∧ m.G.length ≤ 20000 ∧ m.l.length ≤ 20000 := by
      have h := hq.symm
      simp at h
      omega
    clear hq
    obtain ⟨f1, hf1⟩ : ∃ f1, f1 = (Cd.fault m).1 := ⟨_, rfl⟩
    obtain ⟨f2, hf2⟩ : ∃ f2, f2 = (Cd.fault m).2 := ⟨_, rfl⟩
    obtain ⟨C, hC⟩ : ∃ C, C = Cd.cost 10 11 m.l := ⟨_, rfl⟩
    have HC8 := hide (fun (ok' : Nat → Prop) (W : World) (dP dB dG dL : Option Addr) (eP eB eG eL : Nat) (hW : GlobK W) (h : HIm ok' W dP dB dG dL eP eB eG eL m) => (show Calls Tryd.prog 8 #[.agg #[.int .i64 m.c, .int .i64 m.R, .int .i64 m.cost, .slice dP m.P.length eP, .slice dB m.B.length eB, .slice dG m.G.length eG, .slice dL m.l.length eL]] W fun e w' => e = .returned (.agg #[.int .i64 f1, .int .i64 f2]) ∧ Below W.heap.size W w' by rw [hf1, hf2]; exact check8_any hW h))
    have HC9 := hide (fun (W : World) (h : HIm ok W aP aB aG aL cP cB cG cL m) => (show Calls Tryd.prog 9 #[.agg #[.int .i64 m.c, .int .i64 m.R, .int .i64 m.cost, .slice aP m.P.length cP, .slice aB m.B.length cB, .slice aG m.G.length cG, .slice aL m.l.length cL]] W fun e w' => e = .returned (.agg #[.int .i64 f1, .int .i64 f2]) ∧ Below W.heap.size W w' by rw [hf1, hf2]; exact image9_any h))
    have HC7 := hide (fun (W : World) (h : HIm ok W aP aB aG aL cP cB cG cL m) => copy7_any h (by omega) (by omega) (by omega) (by omega))
    have HC10 := hide (fun (ok' : Nat → Prop) (W : World) (dL : Option Addr) (eL : Nat) (h : HIns ok' W (.slice dL m.l.length eL) m.l) => (show Calls Tryd.prog 10 #[.slice dL m.l.length eL] W fun e w' => e = .returned (.int .i64 C) ∧ Below W.heap.size W w' by rw [hC]; exact cost10_any h (by omega)))
    have HC11 := hide (fun (W : World) (h : HIns ok W (.slice aL m.l.length cL) m.l) => (show Calls Tryd.prog 11 #[.slice aL m.l.length cL] W fun e w' => e = .returned (.int .i64 C) ∧ Below W.heap.size W w' by rw [hC]; exact costOf11_any h (by omega)))
    have HL3 := hide (HL.out.under B3)
    have HK3 := hide (HK.out.under B3)
    clear hf1 hf2 hC hq2 HL HK
    go_wp2_with fail
    refine (HC7.out w3 HL3.out).mono ?_
    intro e w4 hp
    obtain ⟨dP, dB, dG, dL, eP, eB, eG, eL, rfl, hm4, b4⟩ := hp.out
    have B4 := B3.trans (b4.mono B3.size)
    have kL4 := (b4.block _ (lt_of kL3)).trans kL3
    have b5 : Below w4.heap.size w4 (w4.alloc (.cells #[.int .i64 m.c, .int .i64 m.R, .int .i64 m.cost, .slice dP m.P.length eP, .slice dB m.B.length eB, .slice dG m.G.length eG, .slice dL m.l.length eL] 25 (0, 0))) := (Below.refl _ _).alloc (Nat.le_refl _) _
    have k5 := heap_new w4 (.cells #[.int .i64 m.c, .int .i64 m.R, .int .i64 m.cost, .slice dP m.P.length eP, .slice dB m.B.length eB, .slice dG m.G.length eG, .slice dL m.l.length eL] 25 (0, 0))
    have HM4 := hide hm4
    have HL4 := hide (HL3.out.under b4)
    have HK4 := hide (HK3.out.under b4)
    clear s0 s1 s2 s3 s4 s5 s6 kL3 hm4 hp HL3 HK3
    go_upto_region 6 with fail
    generalize w4.alloc (.cells #[.int .i64 m.c, .int .i64 m.R, .int .i64 m.cost, .slice dP m.P.length eP, .slice dB m.B.length eB, .slice dG m.G.length eG, .slice dL m.l.length eL] 25 (0, 0)) = w5 at b5 k5 ⊢
    have B5 := B4.trans (b5.mono B4.size)
    have kL5 := (b5.block _ (lt_of kL4)).trans kL4
    have HM5 := hide (HM4.out.under b5)
    have HL5 := hide (HL4.out.under b5)
    have HK5 := hide (HK4.out.under b5)
    clear HM4 HL4 HK4 kL4
    have s0 := cell_of kL5 0
    have s1 := cell_of kL5 1
    have s2 := cell_of kL5 2
    have s3 := cell_of kL5 3
    have s4 := cell_of kL5 4
    have s5 := cell_of kL5 5
    have s6 := cell_of kL5 6
    simp at s0 s1 s2 s3 s4 s5 s6
    have t0 := cell_of k5 0
    have t1 := cell_of k5 1
    have t2 := cell_of k5 2
    have t3 := cell_of k5 3
    have t4 := cell_of k5 4
    have t5 := cell_of k5 5
    have t6 := cell_of k5 6
    simp at t0 t1 t2 t3 t4 t5 t6
    have yL := lt_of kL5
    have yO := lt_of k5
    refine wp_region_late (fun w' => Below w5.heap.size w5 w') (fun _ => false) (by kernel_rfl) ?_
    have hH0 : Below w5.heap.size w5 w5.drew := (Below.refl _ _).drew
    generalize w5.drew = wd0 at hH0 ⊢
    refine' wpAnyL_take (i := 0) (oi := ⟨some 10, _, _, _, _, _⟩) (v := _) rfl (by kernel_rfl) (by kernel_rfl) (by kernel_rfl) (by kernel_rfl) (fun _ _ _ h => h) hH0 (by rfl) ?hyv ?onw
    case hyv =>
      intro wz hSw
      have zc0 := (hSw.cell (p := ⟨w.heap.size, 0, none⟩) yL).trans s0
      have zc1 := (hSw.cell (p := ⟨w.heap.size, 1, none⟩) yL).trans s1
      have zc2 := (hSw.cell (p := ⟨w.heap.size, 2, none⟩) yL).trans s2
      have zc3 := (hSw.cell (p := ⟨w.heap.size, 3, none⟩) yL).trans s3
      have zc4 := (hSw.cell (p := ⟨w.heap.size, 4, none⟩) yL).trans s4
      have zc5 := (hSw.cell (p := ⟨w.heap.size, 5, none⟩) yL).trans s5
      have zc6 := (hSw.cell (p := ⟨w.heap.size, 6, none⟩) yL).trans s6
      have zc7 := (hSw.cell (p := ⟨w4.heap.size, 0, none⟩) yO).trans t0
      have zc8 := (hSw.cell (p := ⟨w4.heap.size, 1, none⟩) yO).trans t1
      have zc9 := (hSw.cell (p := ⟨w4.heap.size, 2, none⟩) yO).trans t2
      have zc10 := (hSw.cell (p := ⟨w4.heap.size, 3, none⟩) yO).trans t3
      have zc11 := (hSw.cell (p := ⟨w4.heap.size, 4, none⟩) yO).trans t4
      have zc12 := (hSw.cell (p := ⟨w4.heap.size, 5, none⟩) yO).trans t5
      have zc13 := (hSw.cell (p := ⟨w4.heap.size, 6, none⟩) yO).trans t6
      go_simp
      try rfl
    case onw =>
      try simp only [Act.put, List.setIfInBounds_toArray, List.set_cons_zero, List.set_cons_succ]
      refine' wpAnyL_take (i := 2) (oi := ⟨some 12, _, _, _, _, _⟩) (v := _) rfl (by kernel_rfl) (by kernel_rfl) (by kernel_rfl) (by kernel_rfl) (fun _ _ _ h => h) hH0 (by rfl) ?hyv ?onw
      case hyv =>
        intro wz hSw
        have zc0 := (hSw.cell (p := ⟨w.heap.size, 0, none⟩) yL).trans s0
        have zc1 := (hSw.cell (p := ⟨w.heap.size, 1, none⟩) yL).trans s1
        have zc2 := (hSw.cell (p := ⟨w.heap.size, 2, none⟩) yL).trans s2
        have zc3 := (hSw.cell (p := ⟨w.heap.size, 3, none⟩) yL).trans s3
        have zc4 := (hSw.cell (p := ⟨w.heap.size, 4, none⟩) yL).trans s4
        have zc5 := (hSw.cell (p := ⟨w.heap.size, 5, none⟩) yL).trans s5
        have zc6 := (hSw.cell (p := ⟨w.heap.size, 6, none⟩) yL).trans s6
        have zc7 := (hSw.cell (p := ⟨w4.heap.size, 0, none⟩) yO).trans t0
        have zc8 := (hSw.cell (p := ⟨w4.heap.size, 1, none⟩) yO).trans t1
        have zc9 := (hSw.cell (p := ⟨w4.heap.size, 2, none⟩) yO).trans t2
        have zc10 := (hSw.cell (p := ⟨w4.heap.size, 3, none⟩) yO).trans t3
        have zc11 := (hSw.cell (p := ⟨w4.heap.size, 4, none⟩) yO).trans t4
        have zc12 := (hSw.cell (p := ⟨w4.heap.size, 5, none⟩) yO).trans t5
        have zc13 := (hSw.cell (p := ⟨w4.heap.size, 6, none⟩) yO).trans t6
        go_simp
        try rfl
      case onw =>
        try simp only [Act.put, List.setIfInBounds_toArray, List.set_cons_zero, List.set_cons_succ]
        refine wpAnyL_one (i := 1) (o := _) rfl (by kernel_rfl) (by rfl) (fun K hK => ?_)
        go_simp
        refine (HC8.out _ wd0 _ _ _ _ _ _ _ _ (HK5.out.under hH0) (HM5.out.under hH0)).mono ?_
        rintro eq wd1 ⟨rfl, bq1⟩
        have hH1 : Below w5.heap.size w5 wd1 := hH0.trans (bq1.mono hH0.size)
        refine hK.out _ _ (fun _ => hH1) ?_
        clear hK K
        try simp only [Act.put, List.setIfInBounds_toArray, List.set_cons_zero, List.set_cons_succ]
        refine wpAnyL_one (i := 3) (o := _) rfl (by kernel_rfl) (by rfl) (fun K hK => ?_)
        go_simp
        refine (HC9.out wd1 (HL5.out.under hH1)).mono ?_
        rintro eq wd2 ⟨rfl, bq2⟩
        have hH2 : Below w5.heap.size w5 wd2 := hH1.trans (bq2.mono hH1.size)
        refine hK.out _ _ (fun _ => hH2) ?_
        clear hK K
        try simp only [Act.put, List.setIfInBounds_toArray, List.set_cons_zero, List.set_cons_succ]
        refine' wpAnyL_take (i := 4) (oi := ⟨some 14, _, _, _, _, _⟩) (v := .bool true) rfl (by kernel_rfl) (by kernel_rfl) (by kernel_rfl) (by kernel_rfl) (fun _ _ _ h => h) hH2 (by rfl) ?hyv ?onw
        case hyv =>
          intro wz hSw
          go_simp
          try rfl
          try simp
        case onw =>
          try simp only [Act.put, List.setIfInBounds_toArray, List.set_cons_zero, List.set_cons_succ]
          refine' wpAnyL_take (i := 5) (oi := ⟨some 15, _, _, _, _, _⟩) (v := _) rfl (by kernel_rfl) (by kernel_rfl) (by kernel_rfl) (by kernel_rfl) (fun _ _ _ h => h) hH2 (by rfl) ?hyv ?onw
          case hyv =>
            intro wz hSw
            go_simp
            try rfl
          case onw =>
            try simp only [Act.put, List.setIfInBounds_toArray, List.set_cons_zero, List.set_cons_succ]
            refine' wpAnyL_take (i := 6) (oi := ⟨some 16, _, _, _, _, _⟩) (v := _) rfl (by kernel_rfl) (by kernel_rfl) (by kernel_rfl) (by kernel_rfl) (fun _ _ _ h => h) hH2 (by rfl) ?hyv ?onw
            case hyv =>
              intro wz hSw
              go_simp
              try rfl
            case onw =>
              try simp only [Act.put, List.setIfInBounds_toArray, List.set_cons_zero, List.set_cons_succ]
              refine' wpAnyL_take (i := 7) (oi := ⟨some 17, _, _, _, _, _⟩) (v := _) rfl (by kernel_rfl) (by kernel_rfl) (by kernel_rfl) (by kernel_rfl) (fun _ _ _ h => h) hH2 (by rfl) ?hyv ?onw
              case hyv =>
                intro wz hSw
                have zc0 := (hSw.cell (p := ⟨w.heap.size, 0, none⟩) yL).trans s0
                have zc1 := (hSw.cell (p := ⟨w.heap.size, 1, none⟩) yL).trans s1
                have zc2 := (hSw.cell (p := ⟨w.heap.size, 2, none⟩) yL).trans s2
                have zc3 := (hSw.cell (p := ⟨w.heap.size, 3, none⟩) yL).trans s3
                have zc4 := (hSw.cell (p := ⟨w.heap.size, 4, none⟩) yL).trans s4
                have zc5 := (hSw.cell (p := ⟨w.heap.size, 5, none⟩) yL).trans s5
                have zc6 := (hSw.cell (p := ⟨w.heap.size, 6, none⟩) yL).trans s6
                have zc7 := (hSw.cell (p := ⟨w4.heap.size, 0, none⟩) yO).trans t0
                have zc8 := (hSw.cell (p := ⟨w4.heap.size, 1, none⟩) yO).trans t1
                have zc9 := (hSw.cell (p := ⟨w4.heap.size, 2, none⟩) yO).trans t2
                have zc10 := (hSw.cell (p := ⟨w4.heap.size, 3, none⟩) yO).trans t3
                have zc11 := (hSw.cell (p := ⟨w4.heap.size, 4, none⟩) yO).trans t4
                have zc12 := (hSw.cell (p := ⟨w4.heap.size, 5, none⟩) yO).trans t5
                have zc13 := (hSw.cell (p := ⟨w4.heap.size, 6, none⟩) yO).trans t6
                go_simp
                try rfl
              case onw =>
                try simp only [Act.put, List.setIfInBounds_toArray, List.set_cons_zero, List.set_cons_succ]
                refine' wpAnyL_take (i := 9) (oi := ⟨some 19, _, _, _, _, _⟩) (v := _) rfl (by kernel_rfl) (by kernel_rfl) (by kernel_rfl) (by kernel_rfl) (fun _ _ _ h => h) hH2 (by rfl) ?hyv ?onw
                case hyv =>
                  intro wz hSw
                  go_simp
                  try rfl
                case onw =>
                  try simp only [Act.put, List.setIfInBounds_toArray, List.set_cons_zero, List.set_cons_succ]
                  refine' wpAnyL_take (i := 10) (oi := ⟨some 20, _, _, _, _, _⟩) (v := _) rfl (by kernel_rfl) (by kernel_rfl) (by kernel_rfl) (by kernel_rfl) (fun _ _ _ h => h) hH2 (by rfl) ?hyv ?onw
                  case hyv =>
                    intro wz hSw
                    have zc0 := (hSw.cell (p := ⟨w.heap.size, 0, none⟩) yL).trans s0
                    have zc1 := (hSw.cell (p := ⟨w.heap.size, 1, none⟩) yL).trans s1
                    have zc2 := (hSw.cell (p := ⟨w.heap.size, 2, none⟩) yL).trans s2
                    have zc3 := (hSw.cell (p := ⟨w.heap.size, 3, none⟩) yL).trans s3
                    have zc4 := (hSw.cell (p := ⟨w.heap.size, 4, none⟩) yL).trans s4
                    have zc5 := (hSw.cell (p := ⟨w.heap.size, 5, none⟩) yL).trans s5
                    have zc6 := (hSw.cell (p := ⟨w.heap.size, 6, none⟩) yL).trans s6
                    have zc7 := (hSw.cell (p := ⟨w4.heap.size, 0, none⟩) yO).trans t0
                    have zc8 := (hSw.cell (p := ⟨w4.heap.size, 1, none⟩) yO).trans t1
                    have zc9 := (hSw.cell (p := ⟨w4.heap.size, 2, none⟩) yO).trans t2
                    have zc10 := (hSw.cell (p := ⟨w4.heap.size, 3, none⟩) yO).trans t3
                    have zc11 := (hSw.cell (p := ⟨w4.heap.size, 4, none⟩) yO).trans t4
                    have zc12 := (hSw.cell (p := ⟨w4.heap.size, 5, none⟩) yO).trans t5
                    have zc13 := (hSw.cell (p := ⟨w4.heap.size, 6, none⟩) yO).trans t6
                    go_simp
                    try rfl
                  case onw =>
                    try simp only [Act.put, List.setIfInBounds_toArray, List.set_cons_zero, List.set_cons_succ]
                    refine wpAnyL_one (i := 8) (o := _) rfl (by kernel_rfl) (by rfl) (fun K hK => ?_)
                    go_simp
                    refine (HC10.out _ wd2 _ _ (HM5.out.under hH2).L).mono ?_
                    rintro eq wd3 ⟨rfl, bq3⟩
                    have hH3 : Below w5.heap.size w5 wd3 := hH2.trans (bq3.mono hH2.size)
                    refine hK.out _ _ (fun _ => hH3) ?_
                    clear hK K
                    try simp only [Act.put, List.setIfInBounds_toArray, List.set_cons_zero, List.set_cons_succ]
                    refine wpAnyL_one (i := 11) (o := _) rfl (by kernel_rfl) (by rfl) (fun K hK => ?_)
                    go_simp
                    refine (HC11.out wd3 (HL5.out.under hH3).L).mono ?_
                    rintro eq wd4 ⟨rfl, bq4⟩
                    have hH4 : Below w5.heap.size w5 wd4 := hH3.trans (bq4.mono hH3.size)
                    refine hK.out _ _ (fun _ => hH4) ?_
                    clear hK K
                    try simp only [Act.put, List.setIfInBounds_toArray, List.set_cons_zero, List.set_cons_succ]
                    refine' wpAnyL_take (i := 12) (oi := ⟨some 22, _, _, _, _, _⟩) (v := .bool true) rfl (by kernel_rfl) (by kernel_rfl) (by kernel_rfl) (by kernel_rfl) (fun _ _ _ h => h) hH4 (by rfl) ?hyv ?onw
                    case hyv =>
                      intro wz hSw
                      go_simp
                      try rfl
                      try simp
                    case onw =>
                      try simp only [Act.put, List.setIfInBounds_toArray, List.set_cons_zero, List.set_cons_succ]
                      refine' wpAnyL_take (i := 13) (oi := ⟨some 23, _, _, _, _, _⟩) (v := _) rfl (by kernel_rfl) (by kernel_rfl) (by kernel_rfl) (by kernel_rfl) (fun _ _ _ h => h) hH4 (by rfl) ?hyv ?onw
                      case hyv =>
                        intro wz hSw
                        go_simp
                        try rfl
                      case onw =>
                        try simp only [Act.put, List.setIfInBounds_toArray, List.set_cons_zero, List.set_cons_succ]
                        refine' wpAnyL_take (i := 14) (oi := ⟨some 24, _, _, _, _, _⟩) (v := _) rfl (by kernel_rfl) (by kernel_rfl) (by kernel_rfl) (by kernel_rfl) (fun _ _ _ h => h) hH4 (by rfl) ?hyv ?onw
                        case hyv =>
                          intro wz hSw
                          go_simp
                          try rfl
                        case onw =>
                          try simp only [Act.put, List.setIfInBounds_toArray, List.set_cons_zero, List.set_cons_succ]
                          refine' wpAnyL_take (i := 15) (oi := ⟨some 25, _, _, _, _, _⟩) (v := _) rfl (by kernel_rfl) (by kernel_rfl) (by kernel_rfl) (by kernel_rfl) (fun _ _ _ h => h) hH4 (by rfl) ?hyv ?onw
                          case hyv =>
                            intro wz hSw
                            have zc0 := (hSw.cell (p := ⟨w.heap.size, 0, none⟩) yL).trans s0
                            have zc1 := (hSw.cell (p := ⟨w.heap.size, 1, none⟩) yL).trans s1
                            have zc2 := (hSw.cell (p := ⟨w.heap.size, 2, none⟩) yL).trans s2
                            have zc3 := (hSw.cell (p := ⟨w.heap.size, 3, none⟩) yL).trans s3
                            have zc4 := (hSw.cell (p := ⟨w.heap.size, 4, none⟩) yL).trans s4
                            have zc5 := (hSw.cell (p := ⟨w.heap.size, 5, none⟩) yL).trans s5
                            have zc6 := (hSw.cell (p := ⟨w.heap.size, 6, none⟩) yL).trans s6
                            have zc7 := (hSw.cell (p := ⟨w4.heap.size, 0, none⟩) yO).trans t0
                            have zc8 := (hSw.cell (p := ⟨w4.heap.size, 1, none⟩) yO).trans t1
                            have zc9 := (hSw.cell (p := ⟨w4.heap.size, 2, none⟩) yO).trans t2
                            have zc10 := (hSw.cell (p := ⟨w4.heap.size, 3, none⟩) yO).trans t3
                            have zc11 := (hSw.cell (p := ⟨w4.heap.size, 4, none⟩) yO).trans t4
                            have zc12 := (hSw.cell (p := ⟨w4.heap.size, 5, none⟩) yO).trans t5
                            have zc13 := (hSw.cell (p := ⟨w4.heap.size, 6, none⟩) yO).trans t6
                            go_simp
                            try rfl
                          case onw =>
                            try simp only [Act.put, List.setIfInBounds_toArray, List.set_cons_zero, List.set_cons_succ]
                            refine' wpAnyL_take (i := 16) (oi := ⟨some 26, _, _, _, _, _⟩) (v := _) rfl (by kernel_rfl) (by kernel_rfl) (by kernel_rfl) (by kernel_rfl) (fun _ _ _ h => h) hH4 (by rfl) ?hyv ?onw
                            case hyv =>
                              intro wz hSw
                              have zc0 := (hSw.cell (p := ⟨w.heap.size, 0, none⟩) yL).trans s0
                              have zc1 := (hSw.cell (p := ⟨w.heap.size, 1, none⟩) yL).trans s1
                              have zc2 := (hSw.cell (p := ⟨w.heap.size, 2, none⟩) yL).trans s2
                              have zc3 := (hSw.cell (p := ⟨w.heap.size, 3, none⟩) yL).trans s3
                              have zc4 := (hSw.cell (p := ⟨w.heap.size, 4, none⟩) yL).trans s4
                              have zc5 := (hSw.cell (p := ⟨w.heap.size, 5, none⟩) yL).trans s5
                              have zc6 := (hSw.cell (p := ⟨w.heap.size, 6, none⟩) yL).trans s6
                              have zc7 := (hSw.cell (p := ⟨w4.heap.size, 0, none⟩) yO).trans t0
                              have zc8 := (hSw.cell (p := ⟨w4.heap.size, 1, none⟩) yO).trans t1
                              have zc9 := (hSw.cell (p := ⟨w4.heap.size, 2, none⟩) yO).trans t2
                              have zc10 := (hSw.cell (p := ⟨w4.heap.size, 3, none⟩) yO).trans t3
                              have zc11 := (hSw.cell (p := ⟨w4.heap.size, 4, none⟩) yO).trans t4
                              have zc12 := (hSw.cell (p := ⟨w4.heap.size, 5, none⟩) yO).trans t5
                              have zc13 := (hSw.cell (p := ⟨w4.heap.size, 6, none⟩) yO).trans t6
                              go_simp
                              try rfl
                            case onw =>
                              try simp only [Act.put, List.setIfInBounds_toArray, List.set_cons_zero, List.set_cons_succ]
                              refine wpAnyL_one (i := 17) (o := _) rfl (by kernel_rfl) (by rfl) (fun K hK => ?_)
                              go_simp
                              refine (sameImage12_any (HM5.out.under hH4) (HL5.out.under hH4)).mono ?_
                              rintro eq wd5 ⟨rfl, bq5⟩
                              have hH5 : Below w5.heap.size w5 wd5 := hH4.trans (bq5.mono hH4.size)
                              refine hK.out _ _ (fun _ => hH5) ?_
                              clear hK K
                              try simp only [Act.put, List.setIfInBounds_toArray, List.set_cons_zero, List.set_cons_succ]
                              refine' wpAnyL_take (i := 18) (oi := ⟨some 28, _, _, _, _, _⟩) (v := _) rfl (by kernel_rfl) (by kernel_rfl) (by kernel_rfl) (by kernel_rfl) (fun _ _ _ h => h) hH5 (by rfl) ?hyv ?onw
                              case hyv =>
                                intro wz hSw
                                go_simp
                                try rfl
                              case onw =>
                                try simp only [Act.put, List.setIfInBounds_toArray, List.set_cons_zero, List.set_cons_succ]
                                refine' wpAnyL_take (i := 19) (oi := ⟨some 2, _, _, _, _, _⟩) (v := _) rfl (by kernel_rfl) (by kernel_rfl) (by kernel_rfl) (by kernel_rfl) (fun _ _ _ h => h) hH5 (by rfl) ?hyv ?onw
                                case hyv =>
                                  intro wz hSw
                                  go_simp
                                  try rfl
                                case onw =>
                                  try simp only [Act.put, List.setIfInBounds_toArray, List.set_cons_zero, List.set_cons_succ]
                                  refine wpAnyL_done (by kernel_rfl) ?_ _
                                  go_wp2_with fail
                                  go_ret
                                  exact ⟨rfl, B5.trans (hH5.mono B5.size)⟩
end Go.Proofs.YtfipfdpohkafaaaDoor
