import Derived.Test.YtgjdkgkgbmbffaaDoorJ26
import Derived.WalkKit
import Derived.WalkSpells
import Derived.IntWalk
import Derived.Deep.Cut
import Derived.Deep.LoopGhost
import Derived.Laws.Cover1
import Derived.Lib.Hide
set_option linter.unusedVariables false
set_option linter.unusedSimpArgs false
set_option maxHeartbeats 64000000
set_option maxRecDepth 100000
namespace Go.Proofs.YtgjdkgkgbmbffaaDoor
open Go.RowKit Go.IntWalk
set_option linter.unusedVariables false
set_option linter.unusedSimpArgs false
theorem HPu.past {ok : Nat → Prop} {w w' : World} {cb : Nat} {v : Value} {l : List Pu} (h : HPu ok w v l) (a : Aside [cb] w.heap.size w w') (hok : ∀ i, ok i → i ≠ cb) : HPu ok w' v l := h.keep a.size fun i hi hl => a.block i hl (by simpa using hok i hi)
structure DoPost (w : World) (cb : Nat) (M' : List Int) (e : Ending) (w' : World) : Prop where
  e : e = .returned (.tuple #[])
  l : LB w' cb M'
  a : Aside [cb] w.heap.size w w'
set_option maxHeartbeats 16000000 in
theorem doOne_any {w : World} {mb cb : Nat} {c : Int} {vP vG vS : Value} {nc : Nat} {M : List Int} (hm : MaAt w mb cb c vP vG vS nc) (hl : LB w cb M) (hn : nc = M.length) (hc : (M.length : Int) = c) (hcM : c ≤ 6000) {ok : Nat → Prop} (hok : ∀ i, ok i → i ≠ cb) (k n : Int) (tn : Nat) (ht : (tn : Int) + 1 ≤ c) {F E : List Pu} {aF aE : Option Addr} {nF cF nE cE : Nat} (hE : HPu ok w (.slice aE nE cE) E) (hfE : Lo.Fit c 1 E) : Calls Tryd.prog 29 #[.pointer (some ⟨mb, 0, none⟩), .agg #[.int .i64 1, .int .i64 k, .int .i64 n, .int .i64 (tn : Int), .slice aF nF cF, .slice aE nE cE]] w (DoPost w cb (M.set tn (Lo.tree M 0 E))) := by
  have b1 : Below w.heap.size w (w.alloc (.cells #[.int .i64 1, .int .i64 k, .int .i64 n, .int .i64 (tn : Int), .slice aF nF cF, .slice aE nE cE] 54 (0, 0))) := (Below.refl _ _).alloc (Nat.le_refl _) _
  have kS := heap_new w (.cells #[.int .i64 1, .int .i64 k, .int .i64 n, .int .i64 (tn : Int), .slice aF nF cF, .slice aE nE cE] 54 (0, 0))
  have hm1 := hm.past (aside b1)
  have hl1 := hl.under b1
  have hcb := hl.lt
  have hne := hm.ne
  have htl : tn < M.length := by omega
  have hT : ∀ W, Aside [cb] w.heap.size w W → LB W cb M → Calls Tryd.prog 47 #[.pointer (some ⟨mb, 0, none⟩), .slice aE nE cE, .int .i64 0] W fun e w' => e = .returned (.int .i64 (Lo.tree M 0 E)) ∧ Below W.heap.size W w' := fun W a h => tree47_ma (hm.past a) h hn hc hcM (hE.past a hok) hfE (by decide) 0 (by decide)
  generalize Lo.tree M 0 E = y at hT ⊢
  have HT := hide hT
  clear hT
  go_enter Tryd.func29, Tryd.ntmps29
  go_upto_region 1 with fail
  generalize (w.alloc (.cells #[.int .i64 1, .int .i64 k, .int .i64 n, .int .i64 (tn : Int), .slice aF nF cF, .slice aE nE cE] 54 (0, 0))) = w1 at b1 kS hm1 hl1 ⊢
  have s0 := cell_of kS 0
  have s1 := cell_of kS 1
  have s2 := cell_of kS 2
  have s3 := cell_of kS 3
  have s4 := cell_of kS 4
  have s5 := cell_of kS 5
  simp at s0 s1 s2 s3 s4 s5
  have m4 := cell_of hm1.m 4
  simp at m4
  have yS := lt_of kS
  have yM := lt_of hm1.m
  have kC0 := hl1
  have hnt : tn < nc := by omega
  clear hm hl hE hm1 hl1 hok hn hc hcM hfE kS
  go_upto_region 3 with fail
  refine wp_region_late (fun w' => Aside [cb] w1.heap.size w1 w') (fun _ => false) (by kernel_rfl) ?_
  have hH0 : Aside [cb] w1.heap.size w1 w1.drew := (Aside.refl _).drew
  have kC : LB w1.drew cb M := kC0
  generalize w1.drew = wd0 at hH0 kC ⊢
  refine' wpAnyL_take (i := 0) (oi := ⟨some 13, _, _, _, _, _⟩) (v := _) rfl (by kernel_rfl) (by kernel_rfl) (by kernel_rfl) (by kernel_rfl) (fun _ _ _ h => h) hH0 (by rfl) ?hyv ?onw
  case hyv =>
    intro wz hSw
    go_simp
    try rfl
  case onw =>
    try simp only [Act.put, List.setIfInBounds_toArray, List.set_cons_zero, List.set_cons_succ]
    refine' wpAnyL_take (i := 1) (oi := ⟨some 14, _, _, _, _, _⟩) (v := _) rfl (by kernel_rfl) (by kernel_rfl) (by kernel_rfl) (by kernel_rfl) (fun _ _ _ h => h) hH0 (by rfl) ?hyv ?onw
    case hyv =>
      intro wz hSw
      go_simp
      try rfl
    case onw =>
      try simp only [Act.put, List.setIfInBounds_toArray, List.set_cons_zero, List.set_cons_succ]
      refine' wpAnyL_take (i := 2) (oi := ⟨some 15, _, _, _, _, _⟩) (v := _) rfl (by kernel_rfl) (by kernel_rfl) (by kernel_rfl) (by kernel_rfl) (fun _ _ _ h => h) hH0 (by rfl) ?hyv ?onw
      case hyv =>
        intro wz hSw
        go_simp
        try rfl
      case onw =>
        try simp only [Act.put, List.setIfInBounds_toArray, List.set_cons_zero, List.set_cons_succ]
        refine' wpAnyL_take (i := 3) (oi := ⟨some 16, _, _, _, _, _⟩) (v := _) rfl (by kernel_rfl) (by kernel_rfl) (by kernel_rfl) (by kernel_rfl) (fun _ _ _ h => h) hH0 (by rfl) ?hyv ?onw
        case hyv =>
          intro wz hSw
          have zc0 := (aside_cell hSw (p := ⟨w.heap.size, 0, none⟩) yS (by simp; omega)).trans s0
          have zc1 := (aside_cell hSw (p := ⟨w.heap.size, 1, none⟩) yS (by simp; omega)).trans s1
          have zc2 := (aside_cell hSw (p := ⟨w.heap.size, 2, none⟩) yS (by simp; omega)).trans s2
          have zc3 := (aside_cell hSw (p := ⟨w.heap.size, 3, none⟩) yS (by simp; omega)).trans s3
          have zc4 := (aside_cell hSw (p := ⟨w.heap.size, 4, none⟩) yS (by simp; omega)).trans s4
          have zc5 := (aside_cell hSw (p := ⟨w.heap.size, 5, none⟩) yS (by simp; omega)).trans s5
          have zc6 := (aside_cell hSw (p := ⟨mb, 4, none⟩) yM (by simpa using hne)).trans m4
          go_simp
          try rfl
        case onw =>
          try simp only [Act.put, List.setIfInBounds_toArray, List.set_cons_zero, List.set_cons_succ]
          refine' wpAnyL_take (i := 4) (oi := ⟨some 17, _, _, _, _, _⟩) (v := _) rfl (by kernel_rfl) (by kernel_rfl) (by kernel_rfl) (by kernel_rfl) (fun _ _ _ h => h) hH0 (by rfl) ?hyv ?onw
          case hyv =>
            intro wz hSw
            go_simp
            try rfl
          case onw =>
            try simp only [Act.put, List.setIfInBounds_toArray, List.set_cons_zero, List.set_cons_succ]
            refine' wpAnyL_take (i := 5) (oi := ⟨some 18, _, _, _, _, _⟩) (v := _) rfl (by kernel_rfl) (by kernel_rfl) (by kernel_rfl) (by kernel_rfl) (fun _ _ _ h => h) hH0 (by rfl) ?hyv ?onw
            case hyv =>
              intro wz hSw
              have zc0 := (aside_cell hSw (p := ⟨w.heap.size, 0, none⟩) yS (by simp; omega)).trans s0
              have zc1 := (aside_cell hSw (p := ⟨w.heap.size, 1, none⟩) yS (by simp; omega)).trans s1
              have zc2 := (aside_cell hSw (p := ⟨w.heap.size, 2, none⟩) yS (by simp; omega)).trans s2
              have zc3 := (aside_cell hSw (p := ⟨w.heap.size, 3, none⟩) yS (by simp; omega)).trans s3
              have zc4 := (aside_cell hSw (p := ⟨w.heap.size, 4, none⟩) yS (by simp; omega)).trans s4
              have zc5 := (aside_cell hSw (p := ⟨w.heap.size, 5, none⟩) yS (by simp; omega)).trans s5
              have zc6 := (aside_cell hSw (p := ⟨mb, 4, none⟩) yM (by simpa using hne)).trans m4
              go_simp
              try rfl
            case onw =>
              try simp only [Act.put, List.setIfInBounds_toArray, List.set_cons_zero, List.set_cons_succ]
              refine' wpAnyL_take (i := 6) (oi := ⟨some 19, _, _, _, _, _⟩) (v := _) rfl (by kernel_rfl) (by kernel_rfl) (by kernel_rfl) (by kernel_rfl) (fun _ _ _ h => h) hH0 (by rfl) ?hyv ?onw
              case hyv =>
                intro wz hSw
                go_simp
                try rfl
              case onw =>
                try simp only [Act.put, List.setIfInBounds_toArray, List.set_cons_zero, List.set_cons_succ]
                refine' wpAnyL_take (i := 7) (oi := ⟨some 20, _, _, _, _, _⟩) (v := _) rfl (by kernel_rfl) (by kernel_rfl) (by kernel_rfl) (by kernel_rfl) (fun _ _ _ h => h) hH0 (by rfl) ?hyv ?onw
                case hyv =>
                  intro wz hSw
                  go_simp
                  try rfl
                case onw =>
                  try simp only [Act.put, List.setIfInBounds_toArray, List.set_cons_zero, List.set_cons_succ]
                  refine' wpAnyL_take (i := 8) (oi := ⟨some 21, _, _, _, _, _⟩) (v := _) rfl (by kernel_rfl) (by kernel_rfl) (by kernel_rfl) (by kernel_rfl) (fun _ _ _ h => h) hH0 (by rfl) ?hyv ?onw
                  case hyv =>
                    intro wz hSw
                    have zc0 := (aside_cell hSw (p := ⟨w.heap.size, 0, none⟩) yS (by simp; omega)).trans s0
                    have zc1 := (aside_cell hSw (p := ⟨w.heap.size, 1, none⟩) yS (by simp; omega)).trans s1
                    have zc2 := (aside_cell hSw (p := ⟨w.heap.size, 2, none⟩) yS (by simp; omega)).trans s2
                    have zc3 := (aside_cell hSw (p := ⟨w.heap.size, 3, none⟩) yS (by simp; omega)).trans s3
                    have zc4 := (aside_cell hSw (p := ⟨w.heap.size, 4, none⟩) yS (by simp; omega)).trans s4
                    have zc5 := (aside_cell hSw (p := ⟨w.heap.size, 5, none⟩) yS (by simp; omega)).trans s5
                    have zc6 := (aside_cell hSw (p := ⟨mb, 4, none⟩) yM (by simpa using hne)).trans m4
                    go_simp
                    try rfl
                  case onw =>
                    try simp only [Act.put, List.setIfInBounds_toArray, List.set_cons_zero, List.set_cons_succ]
                    refine wpAnyL_one (i := 9) (o := _) rfl (by kernel_rfl) (by rfl) (fun K hK => ?_)
                    go_simp
                    refine (HT.out wd0 ((aside b1).trans hH0 b1.size) kC).mono ?_
                    rintro eq wd1 ⟨rfl, bq1⟩
                    have hH1 : Aside [cb] w1.heap.size w1 wd1 := hH0.trans (aside bq1) hH0.size
                    have kC2 := kC.under bq1
                    refine hK.out _ _ (fun _ => hH1) ?_
                    clear hK K
                    try simp only [Act.put, List.setIfInBounds_toArray, List.set_cons_zero, List.set_cons_succ]
                    refine' wpAnyL_take (i := 10) (oi := ⟨some 23, _, _, _, _, _⟩) (v := _) rfl (by kernel_rfl) (by kernel_rfl) (by kernel_rfl) (by kernel_rfl) (fun _ _ _ h => h) hH1 (by rfl) ?hyv ?onw
                    case hyv =>
                      intro wz hSw
                      go_simp
                      try rfl
                    case onw =>
                      try simp only [Act.put, List.setIfInBounds_toArray, List.set_cons_zero, List.set_cons_succ]
                      refine wpAnyL_one (i := 11) (o := _) rfl (by kernel_rfl) (by rfl) (fun K hK => ?_)
                      have fr := kC2.free tn
                      have st0 := kC2.at (i := tn) htl
                      go_simp
                      have hH2 : Aside [cb] w1.heap.size w1 (wd1.setCell ⟨cb, tn, none⟩ (.int .i64 y)) := hH1.trans (Aside.setCell (B := wd1.heap.size) (by simp) _) hH1.size
                      refine hK.out _ _ (fun _ => hH2) ?_
                      clear hK K fr st0
                      try simp only [Act.put, List.setIfInBounds_toArray, List.set_cons_zero, List.set_cons_succ]
                      have kE := kC2.set tn y
                      generalize wd1.setCell ⟨cb, tn, none⟩ (.int .i64 y) = wd2 at hH2 kE ⊢
                      refine wpAnyL_done (by kernel_rfl) ?_ _
                      go_wp2_with fail
                      exact bodyPost_end (v := .tuple #[]) (by simp [results, Tryd.results29]) rfl ⟨rfl, kE, (aside b1).trans hH2 b1.size⟩
set_option maxHeartbeats 16000000 in
theorem doEach_any {w : World} {mb cb : Nat} {c : Int} {vP vG vS : Value} {nc : Nat} {M : List Int} (hm : MaAt w mb cb c vP vG vS nc) (hl : LB w cb M) (hn : nc = M.length) (hc : (M.length : Int) = c) (hcM : c ≤ 6000) {ok : Nat → Prop} (hok : ∀ i, ok i → i ≠ cb) (k : Int) (nn tn : Nat) (ht : (tn : Int) + nn ≤ c) (hn3 : (nn : Int) ≤ 300) {F E : List Pu} {aF aE : Option Addr} {nF cF nE cE : Nat} (hE : HPu ok w (.slice aE nE cE) E) (hfE : Lo.Fit c nn E) : Calls Tryd.prog 29 #[.pointer (some ⟨mb, 0, none⟩), .agg #[.int .i64 2, .int .i64 k, .int .i64 (nn : Int), .int .i64 (tn : Int), .slice aF nF cF, .slice aE nE cE]] w (DoPost w cb (Lo.eachL tn E nn 0 M)) := by
  have b1 : Below w.heap.size w (w.alloc (.cells #[.int .i64 2, .int .i64 k, .int .i64 (nn : Int), .int .i64 (tn : Int), .slice aF nF cF, .slice aE nE cE] 54 (0, 0))) := (Below.refl _ _).alloc (Nat.le_refl _) _
  have kS := heap_new w (.cells #[.int .i64 2, .int .i64 k, .int .i64 (nn : Int), .int .i64 (tn : Int), .slice aF nF cF, .slice aE nE cE] 54 (0, 0))
  have hm1 := hm.past (aside b1)
  have hl1 := hl.under b1
  have hcb := hl.lt
  have hne := hm.ne
  have HT := hide (fun W M' (a : Aside [cb] w.heap.size w W) (h : LB W cb M') (hM : M'.length = M.length) (i : Nat) (hi : i < nn) => tree47_ma (hm.past a) h (hn.trans hM.symm) (by rw [hM]; exact hc) hcM (hE.past a hok) hfE hn3 i (by omega))
  have htn : tn + nn ≤ M.length := by omega
  have hML : M.length ≤ 6000 := by omega
  obtain ⟨R, hR⟩ : ∃ R, R = Lo.eachL tn E nn 0 M := ⟨_, rfl⟩
  rw [← hR]
  have HR := hide (show R = Lo.eachL tn E (nn - 0) 0 M from hR)
  clear hR
  go_enter Tryd.func29, Tryd.ntmps29
  go_upto_region 1 with fail
  generalize (w.alloc (.cells #[.int .i64 2, .int .i64 k, .int .i64 (nn : Int), .int .i64 (tn : Int), .slice aF nF cF, .slice aE nE cE] 54 (0, 0))) = w1 at b1 kS hm1 hl1 ⊢
  have s0 := cell_of kS 0
  have s1 := cell_of kS 1
  have s2 := cell_of kS 2
  have s3 := cell_of kS 3
  have s4 := cell_of kS 4
  have s5 := cell_of kS 5
  simp at s0 s1 s2 s3 s4 s5
  have kC0 := hl1
  have HNC := hide hn
  clear hm hl hE hl1 hok hn hc hcM hfE
  go_wp2_with fail
  go_loopg [4, 28] nn (fun k u4 v wr => ∃ (i : Nat) (M' : List Int), i ≤ nn ∧ k = nn - i ∧ v = .int .i64 (i : Nat) ∧ Hid (R = Lo.eachL tn E (nn - i) i M') ∧ Hid (LB wr cb M' ∧ M'.length = M.length) ∧ Aside [cb] w1.heap.size w1 wr)
  case atStart => exact ⟨0, M, Nat.zero_le _, rfl, rfl, HR, hide ⟨kC0, rfl⟩, Aside.refl _⟩
  case round =>
    clear HR s0 s1 s2 s3 s4 s5 kC0
    obtain ⟨i, M', hi, rfl, rfl, H, HL, hbr⟩ := hrel
    have Br := (aside b1).trans hbr b1.size
    have kSr := hbr.keep kS (lt_of kS) (by simp; omega)
    have hmr := hm1.past hbr
    have s0 := cell_of kSr 0
    have s1 := cell_of kSr 1
    have s2 := cell_of kSr 2
    have s3 := cell_of kSr 3
    have s4 := cell_of kSr 4
    have s5 := cell_of kSr 5
    have m4 := cell_of hmr.m 4
    simp at s0 s1 s2 s3 s4 s5 m4
    have yS := lt_of kSr
    have yM := lt_of hmr.m
    by_cases hlt : i < nn
    case neg =>
      have hin : i = nn := by omega
      subst hin
      have HZ := hide (show R = M' by rw [H.out, Nat.sub_self]; rfl)
      clear H
      go_wp2_with fail
      exact bodyPost_end (v := .tuple #[]) (by simp [results, Tryd.results29]) rfl ⟨rfl, by rw [HZ.out]; exact HL.out.1, Br⟩
    case pos =>
      obtain ⟨kC0, hM'⟩ := HL.out
      have hT := fun W (a : Aside [cb] w.heap.size w W) (h : LB W cb M') => HT.out W M' a h hM' i hlt
      have hR1 := H.out
      rw [show nn - i = (nn - (i + 1)) + 1 by omega, Lo.eachL] at hR1
      obtain ⟨z, hz⟩ : ∃ z, z = tn + i := ⟨_, rfl⟩
      rw [show ((tn : Int) + (i : Int)).toNat = z by omega] at hR1
      generalize Lo.tree M' (i : Int) E = y at hT hR1
      have HTi := hide hT
      have HR1 := hide hR1
      have HW : Hid (IntKind.i64.wrap ((tn : Int) + (i : Int)) = (z : Int)) := hide (by
        have h2 : IntKind.i64.wrap ((tn : Int) + (i : Int)) = (tn : Int) + (i : Int) := i64_in _ (by omega)
        have h3 : ((tn : Int) + (i : Int)) = (z : Int) := by omega
        exact h2.trans h3)
      have hzl : z < M'.length := by omega
      have hznc : z < nc := by have := HNC.out; omega
      have HM' := hide hM'
      clear hz
      clear hT hR1 H HL hM'
      go_upto_region 8 with fail
      refine wp_region_late (fun w' => Aside [cb] wr.heap.size wr w') (fun _ => false) (by kernel_rfl) ?_
      have hH0 : Aside [cb] wr.heap.size wr wr.drew := (Aside.refl _).drew
      have kC : LB wr.drew cb M' := kC0
      generalize wr.drew = wd0 at hH0 kC ⊢
      refine' wpAnyL_take (i := 0) (oi := ⟨some 31, _, _, _, _, _⟩) (v := _) rfl (by kernel_rfl) (by kernel_rfl) (by kernel_rfl) (by kernel_rfl) (fun _ _ _ h => h) hH0 (by rfl) ?hyv ?onw
      case hyv =>
        intro wz hSw
        go_simp
        try rfl
      case onw =>
        try simp only [Act.put, List.setIfInBounds_toArray, List.set_cons_zero, List.set_cons_succ]
        refine' wpAnyL_take (i := 1) (oi := ⟨some 32, _, _, _, _, _⟩) (v := _) rfl (by kernel_rfl) (by kernel_rfl) (by kernel_rfl) (by kernel_rfl) (fun _ _ _ h => h) hH0 (by rfl) ?hyv ?onw
        case hyv =>
          intro wz hSw
          go_simp
          try rfl
        case onw =>
          try simp only [Act.put, List.setIfInBounds_toArray, List.set_cons_zero, List.set_cons_succ]
          refine' wpAnyL_take (i := 2) (oi := ⟨some 33, _, _, _, _, _⟩) (v := _) rfl (by kernel_rfl) (by kernel_rfl) (by kernel_rfl) (by kernel_rfl) (fun _ _ _ h => h) hH0 (by rfl) ?hyv ?onw
          case hyv =>
            intro wz hSw
            go_simp
            try rfl
          case onw =>
            try simp only [Act.put, List.setIfInBounds_toArray, List.set_cons_zero, List.set_cons_succ]
            refine' wpAnyL_take (i := 3) (oi := ⟨some 34, _, _, _, _, _⟩) (v := _) rfl (by kernel_rfl) (by kernel_rfl) (by kernel_rfl) (by kernel_rfl) (fun _ _ _ h => h) hH0 (by rfl) ?hyv ?onw
            case hyv =>
              intro wz hSw
              have zc0 := (aside_cell hSw (p := ⟨w.heap.size, 0, none⟩) yS (by simp; omega)).trans s0
              have zc1 := (aside_cell hSw (p := ⟨w.heap.size, 1, none⟩) yS (by simp; omega)).trans s1
              have zc2 := (aside_cell hSw (p := ⟨w.heap.size, 2, none⟩) yS (by simp; omega)).trans s2
              have zc3 := (aside_cell hSw (p := ⟨w.heap.size, 3, none⟩) yS (by simp; omega)).trans s3
              have zc4 := (aside_cell hSw (p := ⟨w.heap.size, 4, none⟩) yS (by simp; omega)).trans s4
              have zc5 := (aside_cell hSw (p := ⟨w.heap.size, 5, none⟩) yS (by simp; omega)).trans s5
              have zc6 := (aside_cell hSw (p := ⟨mb, 4, none⟩) yM (by simpa using hne)).trans m4
              go_simp
              try rfl
            case onw =>
              try simp only [Act.put, List.setIfInBounds_toArray, List.set_cons_zero, List.set_cons_succ]
              refine' wpAnyL_take (i := 4) (oi := ⟨some 35, _, _, _, _, _⟩) (v := _) rfl (by kernel_rfl) (by kernel_rfl) (by kernel_rfl) (by kernel_rfl) (fun _ _ _ h => h) hH0 (by rfl) ?hyv ?onw
              case hyv =>
                intro wz hSw
                go_simp
                try rfl
              case onw =>
                try simp only [Act.put, List.setIfInBounds_toArray, List.set_cons_zero, List.set_cons_succ]
                refine' wpAnyL_take (i := 5) (oi := ⟨some 36, _, _, _, _, _⟩) (v := _) rfl (by kernel_rfl) (by kernel_rfl) (by kernel_rfl) (by kernel_rfl) (fun _ _ _ h => h) hH0 (by rfl) ?hyv ?onw
                case hyv =>
                  intro wz hSw
                  have zc0 := (aside_cell hSw (p := ⟨w.heap.size, 0, none⟩) yS (by simp; omega)).trans s0
                  have zc1 := (aside_cell hSw (p := ⟨w.heap.size, 1, none⟩) yS (by simp; omega)).trans s1
                  have zc2 := (aside_cell hSw (p := ⟨w.heap.size, 2, none⟩) yS (by simp; omega)).trans s2
                  have zc3 := (aside_cell hSw (p := ⟨w.heap.size, 3, none⟩) yS (by simp; omega)).trans s3
                  have zc4 := (aside_cell hSw (p := ⟨w.heap.size, 4, none⟩) yS (by simp; omega)).trans s4
                  have zc5 := (aside_cell hSw (p := ⟨w.heap.size, 5, none⟩) yS (by simp; omega)).trans s5
                  have zc6 := (aside_cell hSw (p := ⟨mb, 4, none⟩) yM (by simpa using hne)).trans m4
                  go_simp
                  try rfl
                case onw =>
                  try simp only [Act.put, List.setIfInBounds_toArray, List.set_cons_zero, List.set_cons_succ]
                  refine' wpAnyL_take (i := 6) (oi := ⟨some 37, _, _, _, _, _⟩) (v := _) rfl (by kernel_rfl) (by kernel_rfl) (by kernel_rfl) (by kernel_rfl) (fun _ _ _ h => h) hH0 (by rfl) ?hyv ?onw
                  case hyv =>
                    intro wz hSw
                    go_simp
                    try rfl
                  case onw =>
                    try simp only [Act.put, List.setIfInBounds_toArray, List.set_cons_zero, List.set_cons_succ]
                    refine' wpAnyL_take (i := 7) (oi := ⟨some 38, _, _, _, _, _⟩) (v := .int .i64 (z : Int)) rfl (by kernel_rfl) (by kernel_rfl) (by kernel_rfl) (by kernel_rfl) (fun _ _ _ h => h) hH0 (by rfl) ?hyv ?onw
                    case hyv =>
                      intro wz hSw
                      go_simp
                      rw [HW.out]
                    case onw =>
                      try simp only [Act.put, List.setIfInBounds_toArray, List.set_cons_zero, List.set_cons_succ]
                      refine' wpAnyL_take (i := 8) (oi := ⟨some 39, _, _, _, _, _⟩) (v := _) rfl (by kernel_rfl) (by kernel_rfl) (by kernel_rfl) (by kernel_rfl) (fun _ _ _ h => h) hH0 (by rfl) ?hyv ?onw
                      case hyv =>
                        intro wz hSw
                        go_simp
                        try rfl
                      case onw =>
                        try simp only [Act.put, List.setIfInBounds_toArray, List.set_cons_zero, List.set_cons_succ]
                        refine' wpAnyL_take (i := 9) (oi := ⟨some 40, _, _, _, _, _⟩) (v := _) rfl (by kernel_rfl) (by kernel_rfl) (by kernel_rfl) (by kernel_rfl) (fun _ _ _ h => h) hH0 (by rfl) ?hyv ?onw
                        case hyv =>
                          intro wz hSw
                          go_simp
                          try rfl
                        case onw =>
                          try simp only [Act.put, List.setIfInBounds_toArray, List.set_cons_zero, List.set_cons_succ]
                          refine' wpAnyL_take (i := 10) (oi := ⟨some 41, _, _, _, _, _⟩) (v := _) rfl (by kernel_rfl) (by kernel_rfl) (by kernel_rfl) (by kernel_rfl) (fun _ _ _ h => h) hH0 (by rfl) ?hyv ?onw
                          case hyv =>
                            intro wz hSw
                            have zc0 := (aside_cell hSw (p := ⟨w.heap.size, 0, none⟩) yS (by simp; omega)).trans s0
                            have zc1 := (aside_cell hSw (p := ⟨w.heap.size, 1, none⟩) yS (by simp; omega)).trans s1
                            have zc2 := (aside_cell hSw (p := ⟨w.heap.size, 2, none⟩) yS (by simp; omega)).trans s2
                            have zc3 := (aside_cell hSw (p := ⟨w.heap.size, 3, none⟩) yS (by simp; omega)).trans s3
                            have zc4 := (aside_cell hSw (p := ⟨w.heap.size, 4, none⟩) yS (by simp; omega)).trans s4
                            have zc5 := (aside_cell hSw (p := ⟨w.heap.size, 5, none⟩) yS (by simp; omega)).trans s5
                            have zc6 := (aside_cell hSw (p := ⟨mb, 4, none⟩) yM (by simpa using hne)).trans m4
                            go_simp
                            try rfl
                          case onw =>
                            try simp only [Act.put, List.setIfInBounds_toArray, List.set_cons_zero, List.set_cons_succ]
                            refine' wpAnyL_take (i := 11) (oi := ⟨some 42, _, _, _, _, _⟩) (v := _) rfl (by kernel_rfl) (by kernel_rfl) (by kernel_rfl) (by kernel_rfl) (fun _ _ _ h => h) hH0 (by rfl) ?hyv ?onw
                            case hyv =>
                              intro wz hSw
                              go_simp
                              try rfl
                            case onw =>
                              try simp only [Act.put, List.setIfInBounds_toArray, List.set_cons_zero, List.set_cons_succ]
                              refine wpAnyL_one (i := 12) (o := _) rfl (by kernel_rfl) (by rfl) (fun K hK => ?_)
                              go_simp
                              refine (HTi.out wd0 (Br.trans hH0 Br.size) kC).mono ?_
                              rintro eq wd1 ⟨rfl, bq1⟩
                              have hH1 : Aside [cb] wr.heap.size wr wd1 := hH0.trans (aside bq1) hH0.size
                              have kC2 := kC.under bq1
                              refine hK.out _ _ (fun _ => hH1) ?_
                              clear hK K
                              try simp only [Act.put, List.setIfInBounds_toArray, List.set_cons_zero, List.set_cons_succ]
                              refine' wpAnyL_take (i := 13) (oi := ⟨some 44, _, _, _, _, _⟩) (v := _) rfl (by kernel_rfl) (by kernel_rfl) (by kernel_rfl) (by kernel_rfl) (fun _ _ _ h => h) hH1 (by rfl) ?hyv ?onw
                              case hyv =>
                                intro wz hSw
                                go_simp
                                try rfl
                              case onw =>
                                try simp only [Act.put, List.setIfInBounds_toArray, List.set_cons_zero, List.set_cons_succ]
                                refine wpAnyL_one (i := 14) (o := _) rfl (by kernel_rfl) (by rfl) (fun K hK => ?_)
                                have fr := kC2.free z
                                have st0 := kC2.at (i := z) hzl
                                go_simp
                                have hH2 : Aside [cb] wr.heap.size wr (wd1.setCell ⟨cb, z, none⟩ (.int .i64 y)) := hH1.trans (Aside.setCell (B := wd1.heap.size) (by simp) _) hH1.size
                                refine hK.out _ _ (fun _ => hH2) ?_
                                clear hK K fr st0
                                try simp only [Act.put, List.setIfInBounds_toArray, List.set_cons_zero, List.set_cons_succ]
                                have kE := kC2.set z y
                                generalize wd1.setCell ⟨cb, z, none⟩ (.int .i64 y) = wd2 at hH2 kE ⊢
                                refine wpAnyL_done (by kernel_rfl) ?_ _
                                go_wp2_with fail
                                go_roundg (nn - (i + 1))
                                case measure => omega
                                case rel => exact ⟨i + 1, M'.set z y, by omega, rfl, by go_num, HR1, hide ⟨kE, by rw [List.length_set]; exact HM'.out⟩, hbr.trans hH2 hbr.size⟩
set_option maxHeartbeats 16000000 in
theorem doFold_any {w : World} {mb cb : Nat} {c : Int} {vP vG vS : Value} {nc : Nat} {M : List Int} (hm : MaAt w mb cb c vP vG vS nc) (hl : LB w cb M) (hn : nc = M.length) (hc : (M.length : Int) = c) (hcM : c ≤ 6000) {ok : Nat → Prop} (hok : ∀ i, ok i → i ≠ cb) (k : Int) (nn tn : Nat) (ht : (tn : Int) + 1 ≤ c) (hn3 : (nn : Int) ≤ 300) {F E : List Pu} {aF aE : Option Addr} {nF cF nE cE : Nat} (hF : HPu ok w (.slice aF nF cF) F) (hfF : Lo.Fit c 1 F) (hE : HPu ok w (.slice aE nE cE) E) (hfE : Lo.Fit c nn E) : Calls Tryd.prog 29 #[.pointer (some ⟨mb, 0, none⟩), .agg #[.int .i64 3, .int .i64 k, .int .i64 (nn : Int), .int .i64 (tn : Int), .slice aF nF cF, .slice aE nE cE]] w (DoPost w cb (M.set tn (Lo.foldL k E M nn 0 (Lo.tree M 0 F)))) := by
  have b1 : Below w.heap.size w (w.alloc (.cells #[.int .i64 3, .int .i64 k, .int .i64 (nn : Int), .int .i64 (tn : Int), .slice aF nF cF, .slice aE nE cE] 54 (0, 0))) := (Below.refl _ _).alloc (Nat.le_refl _) _
  have kS := heap_new w (.cells #[.int .i64 3, .int .i64 k, .int .i64 (nn : Int), .int .i64 (tn : Int), .slice aF nF cF, .slice aE nE cE] 54 (0, 0))
  have hm1 := hm.past (aside b1)
  have hl1 := hl.under b1
  have hcb := hl.lt
  have hne := hm.ne
  have HT := hide (fun W (a : Below w.heap.size w W) (i : Nat) (hi : i < nn) => tree47_ma (hm.past (aside a)) (hl.under a) hn hc hcM (hE.under a) hfE hn3 i (by omega))
  have hTF : ∀ W, Below w.heap.size w W → Calls Tryd.prog 47 #[.pointer (some ⟨mb, 0, none⟩), .slice aF nF cF, .int .i64 0] W fun e w' => e = .returned (.int .i64 (Lo.tree M 0 F)) ∧ Below W.heap.size W w' := fun W a => tree47_ma (hm.past (aside a)) (hl.under a) hn hc hcM (hF.under a) hfF (by decide) 0 (by decide)
  have htl : tn < M.length := by omega
  have htc : tn < nc := by omega
  obtain ⟨fv, hfv⟩ : ∃ fv, fv = Lo.foldL k E M nn 0 (Lo.tree M 0 F) := ⟨_, rfl⟩
  rw [← hfv]
  generalize Lo.tree M 0 F = x0 at hTF hfv
  have HTF := hide hTF
  have HR := hide (show fv = Lo.foldL k E M (nn - 0) 0 x0 from hfv)
  clear hfv hTF
  go_enter Tryd.func29, Tryd.ntmps29
  go_upto_region 1 with fail
  generalize (w.alloc (.cells #[.int .i64 3, .int .i64 k, .int .i64 (nn : Int), .int .i64 (tn : Int), .slice aF nF cF, .slice aE nE cE] 54 (0, 0))) = w1 at b1 kS hm1 hl1 ⊢
  have s0 := cell_of kS 0
  have s1 := cell_of kS 1
  have s2 := cell_of kS 2
  have s3 := cell_of kS 3
  have s4 := cell_of kS 4
  have s5 := cell_of kS 5
  simp at s0 s1 s2 s3 s4 s5
  have kC0 := hl1
  have HNC := hide hn
  clear hm hl hE hF hl1 hok hn hc hcM hfE hfF
  go_upto_region 12 with (go_at_call 47; refine (HTF.out _ b1).mono ?_; rintro e w2 ⟨rfl, b2⟩)
  have B2 := b1.trans (b2.mono b1.size)
  have kS2 := (b2.block _ (lt_of kS)).trans kS
  have hm2 := hm1.past (aside b2)
  have hl2 := kC0.under b2
  clear s0 s1 s2 s3 s4 s5 kC0 kS hm1 HTF
  have s0 := cell_of kS2 0
  have s1 := cell_of kS2 1
  have s2 := cell_of kS2 2
  have s3 := cell_of kS2 3
  have s4 := cell_of kS2 4
  have s5 := cell_of kS2 5
  simp at s0 s1 s2 s3 s4 s5
  go_wp2_with fail
  go_loopg [5, 6, 54] nn (fun kq u5 u6 v wr => ∃ (i : Nat) (x : Int), i ≤ nn ∧ kq = nn - i ∧ v = .int .i64 (i : Nat) ∧ u5 = .int .i64 x ∧ Hid (fv = Lo.foldL k E M (nn - i) i x) ∧ Below w2.heap.size w2 wr)
  case atStart => exact ⟨0, x0, Nat.zero_le _, rfl, rfl, rfl, HR, Below.refl _ _⟩
  case round =>
    clear HR s0 s1 s2 s3 s4 s5
    obtain ⟨i, x, hi, rfl, rfl, rfl, H, hbr⟩ := hrel
    have Br := B2.trans (hbr.mono B2.size)
    have hlr := hl2.under hbr
    have kSr := (aside (S := [cb]) hbr).keep kS2 (lt_of kS2) (by simp; omega)
    have hmr := hm2.past (aside (S := [cb]) hbr)
    have s0 := cell_of kSr 0
    have s1 := cell_of kSr 1
    have s2 := cell_of kSr 2
    have s3 := cell_of kSr 3
    have s4 := cell_of kSr 4
    have s5 := cell_of kSr 5
    have m4 := cell_of hmr.m 4
    simp at s0 s1 s2 s3 s4 s5 m4
    have yS := lt_of kSr
    have yM := lt_of hmr.m
    by_cases hlt : i < nn
    case neg =>
      have hin : i = nn := by omega
      subst hin
      have HZ := hide (show fv = x by rw [H.out, Nat.sub_self]; rfl)
      clear H
      have kC0 := hlr
      go_upto_region 17 with fail
      refine wp_region_late (fun w' => Aside [cb] wr.heap.size wr w') (fun _ => false) (by kernel_rfl) ?_
      have hH0 : Aside [cb] wr.heap.size wr wr.drew := (Aside.refl _).drew
      have kC : LB wr.drew cb M := kC0
      generalize wr.drew = wd0 at hH0 kC ⊢
      refine' wpAnyL_take (i := 0) (oi := ⟨some 67, _, _, _, _, _⟩) (v := _) rfl (by kernel_rfl) (by kernel_rfl) (by kernel_rfl) (by kernel_rfl) (fun _ _ _ h => h) hH0 (by rfl) ?hyv ?onw
      case hyv =>
        intro wz hSw
        go_simp
        try rfl
      case onw =>
        try simp only [Act.put, List.setIfInBounds_toArray, List.set_cons_zero, List.set_cons_succ]
        refine' wpAnyL_take (i := 1) (oi := ⟨some 68, _, _, _, _, _⟩) (v := _) rfl (by kernel_rfl) (by kernel_rfl) (by kernel_rfl) (by kernel_rfl) (fun _ _ _ h => h) hH0 (by rfl) ?hyv ?onw
        case hyv =>
          intro wz hSw
          go_simp
          try rfl
        case onw =>
          try simp only [Act.put, List.setIfInBounds_toArray, List.set_cons_zero, List.set_cons_succ]
          refine' wpAnyL_take (i := 2) (oi := ⟨some 69, _, _, _, _, _⟩) (v := _) rfl (by kernel_rfl) (by kernel_rfl) (by kernel_rfl) (by kernel_rfl) (fun _ _ _ h => h) hH0 (by rfl) ?hyv ?onw
          case hyv =>
            intro wz hSw
            go_simp
            try rfl
          case onw =>
            try simp only [Act.put, List.setIfInBounds_toArray, List.set_cons_zero, List.set_cons_succ]
            refine' wpAnyL_take (i := 3) (oi := ⟨some 70, _, _, _, _, _⟩) (v := _) rfl (by kernel_rfl) (by kernel_rfl) (by kernel_rfl) (by kernel_rfl) (fun _ _ _ h => h) hH0 (by rfl) ?hyv ?onw
            case hyv =>
              intro wz hSw
              have zc0 := (aside_cell hSw (p := ⟨w.heap.size, 0, none⟩) yS (by simp; omega)).trans s0
              have zc1 := (aside_cell hSw (p := ⟨w.heap.size, 1, none⟩) yS (by simp; omega)).trans s1
              have zc2 := (aside_cell hSw (p := ⟨w.heap.size, 2, none⟩) yS (by simp; omega)).trans s2
              have zc3 := (aside_cell hSw (p := ⟨w.heap.size, 3, none⟩) yS (by simp; omega)).trans s3
              have zc4 := (aside_cell hSw (p := ⟨w.heap.size, 4, none⟩) yS (by simp; omega)).trans s4
              have zc5 := (aside_cell hSw (p := ⟨w.heap.size, 5, none⟩) yS (by simp; omega)).trans s5
              have zc6 := (aside_cell hSw (p := ⟨mb, 4, none⟩) yM (by simpa using hne)).trans m4
              go_simp
              try rfl
            case onw =>
              try simp only [Act.put, List.setIfInBounds_toArray, List.set_cons_zero, List.set_cons_succ]
              refine' wpAnyL_take (i := 4) (oi := ⟨some 71, _, _, _, _, _⟩) (v := _) rfl (by kernel_rfl) (by kernel_rfl) (by kernel_rfl) (by kernel_rfl) (fun _ _ _ h => h) hH0 (by rfl) ?hyv ?onw
              case hyv =>
                intro wz hSw
                go_simp
                try rfl
              case onw =>
                try simp only [Act.put, List.setIfInBounds_toArray, List.set_cons_zero, List.set_cons_succ]
                refine' wpAnyL_take (i := 5) (oi := ⟨some 72, _, _, _, _, _⟩) (v := _) rfl (by kernel_rfl) (by kernel_rfl) (by kernel_rfl) (by kernel_rfl) (fun _ _ _ h => h) hH0 (by rfl) ?hyv ?onw
                case hyv =>
                  intro wz hSw
                  have zc0 := (aside_cell hSw (p := ⟨w.heap.size, 0, none⟩) yS (by simp; omega)).trans s0
                  have zc1 := (aside_cell hSw (p := ⟨w.heap.size, 1, none⟩) yS (by simp; omega)).trans s1
                  have zc2 := (aside_cell hSw (p := ⟨w.heap.size, 2, none⟩) yS (by simp; omega)).trans s2
                  have zc3 := (aside_cell hSw (p := ⟨w.heap.size, 3, none⟩) yS (by simp; omega)).trans s3
                  have zc4 := (aside_cell hSw (p := ⟨w.heap.size, 4, none⟩) yS (by simp; omega)).trans s4
                  have zc5 := (aside_cell hSw (p := ⟨w.heap.size, 5, none⟩) yS (by simp; omega)).trans s5
                  have zc6 := (aside_cell hSw (p := ⟨mb, 4, none⟩) yM (by simpa using hne)).trans m4
                  go_simp
                  try rfl
                case onw =>
                  try simp only [Act.put, List.setIfInBounds_toArray, List.set_cons_zero, List.set_cons_succ]
                  refine' wpAnyL_take (i := 6) (oi := ⟨some 73, _, _, _, _, _⟩) (v := _) rfl (by kernel_rfl) (by kernel_rfl) (by kernel_rfl) (by kernel_rfl) (fun _ _ _ h => h) hH0 (by rfl) ?hyv ?onw
                  case hyv =>
                    intro wz hSw
                    go_simp
                    try rfl
                  case onw =>
                    try simp only [Act.put, List.setIfInBounds_toArray, List.set_cons_zero, List.set_cons_succ]
                    refine' wpAnyL_take (i := 7) (oi := ⟨some 74, _, _, _, _, _⟩) (v := _) rfl (by kernel_rfl) (by kernel_rfl) (by kernel_rfl) (by kernel_rfl) (fun _ _ _ h => h) hH0 (by rfl) ?hyv ?onw
                    case hyv =>
                      intro wz hSw
                      go_simp
                      try rfl
                    case onw =>
                      try simp only [Act.put, List.setIfInBounds_toArray, List.set_cons_zero, List.set_cons_succ]
                      refine wpAnyL_one (i := 8) (o := _) rfl (by kernel_rfl) (by rfl) (fun K hK => ?_)
                      have fr := kC.free tn
                      have st0 := kC.at (i := tn) htl
                      go_simp
                      have hH1 : Aside [cb] wr.heap.size wr (wd0.setCell ⟨cb, tn, none⟩ (.int .i64 x)) := hH0.trans (Aside.setCell (B := wd0.heap.size) (by simp) _) hH0.size
                      refine hK.out _ _ (fun _ => hH1) ?_
                      clear hK K fr st0
                      try simp only [Act.put, List.setIfInBounds_toArray, List.set_cons_zero, List.set_cons_succ]
                      have kE := kC.set tn x
                      generalize wd0.setCell ⟨cb, tn, none⟩ (.int .i64 x) = wd1 at hH1 kE ⊢
                      refine wpAnyL_done (by kernel_rfl) ?_ _
                      go_wp2_with fail
                      exact bodyPost_end (v := .tuple #[]) (by simp [results, Tryd.results29]) rfl ⟨rfl, by rw [HZ.out]; exact kE, (aside Br).trans hH1 Br.size⟩
    case pos =>
      have hT := fun W (a : Below w.heap.size w W) => HT.out W a i hlt
      have hR1 := H.out
      rw [show nn - i = (nn - (i + 1)) + 1 by omega, Lo.foldL] at hR1
      generalize Lo.tree M (i : Int) E = y at hT hR1
      have HTi := hide hT
      have HR1 := hide hR1
      clear hT hR1 H
      go_upto_region 15 with fail
      refine wp_region_late (fun w' => Below wr.heap.size wr w') (fun _ => false) (by kernel_rfl) ?_
      have hH0 : Below wr.heap.size wr wr.drew := (Below.refl _ _).drew
      generalize wr.drew = wd0 at hH0 ⊢
      refine' wpAnyL_take (i := 0) (oi := ⟨some 57, _, _, _, _, _⟩) (v := _) rfl (by kernel_rfl) (by kernel_rfl) (by kernel_rfl) (by kernel_rfl) (fun _ _ _ h => h) hH0 (by rfl) ?hyv ?onw
      case hyv =>
        intro wz hSw
        go_simp
        try rfl
      case onw =>
        try simp only [Act.put, List.setIfInBounds_toArray, List.set_cons_zero, List.set_cons_succ]
        refine' wpAnyL_take (i := 1) (oi := ⟨some 58, _, _, _, _, _⟩) (v := _) rfl (by kernel_rfl) (by kernel_rfl) (by kernel_rfl) (by kernel_rfl) (fun _ _ _ h => h) hH0 (by rfl) ?hyv ?onw
        case hyv =>
          intro wz hSw
          have zc0 := (hSw.cell (p := ⟨w.heap.size, 0, none⟩) yS).trans s0
          have zc1 := (hSw.cell (p := ⟨w.heap.size, 1, none⟩) yS).trans s1
          have zc2 := (hSw.cell (p := ⟨w.heap.size, 2, none⟩) yS).trans s2
          have zc3 := (hSw.cell (p := ⟨w.heap.size, 3, none⟩) yS).trans s3
          have zc4 := (hSw.cell (p := ⟨w.heap.size, 4, none⟩) yS).trans s4
          have zc5 := (hSw.cell (p := ⟨w.heap.size, 5, none⟩) yS).trans s5
          have zc6 := (hSw.cell (p := ⟨mb, 4, none⟩) yM).trans m4
          go_simp
          try rfl
        case onw =>
          try simp only [Act.put, List.setIfInBounds_toArray, List.set_cons_zero, List.set_cons_succ]
          refine' wpAnyL_take (i := 2) (oi := ⟨some 59, _, _, _, _, _⟩) (v := _) rfl (by kernel_rfl) (by kernel_rfl) (by kernel_rfl) (by kernel_rfl) (fun _ _ _ h => h) hH0 (by rfl) ?hyv ?onw
          case hyv =>
            intro wz hSw
            go_simp
            try rfl
          case onw =>
            try simp only [Act.put, List.setIfInBounds_toArray, List.set_cons_zero, List.set_cons_succ]
            refine' wpAnyL_take (i := 3) (oi := ⟨some 60, _, _, _, _, _⟩) (v := _) rfl (by kernel_rfl) (by kernel_rfl) (by kernel_rfl) (by kernel_rfl) (fun _ _ _ h => h) hH0 (by rfl) ?hyv ?onw
            case hyv =>
              intro wz hSw
              go_simp
              try rfl
            case onw =>
              try simp only [Act.put, List.setIfInBounds_toArray, List.set_cons_zero, List.set_cons_succ]
              refine' wpAnyL_take (i := 4) (oi := ⟨some 61, _, _, _, _, _⟩) (v := _) rfl (by kernel_rfl) (by kernel_rfl) (by kernel_rfl) (by kernel_rfl) (fun _ _ _ h => h) hH0 (by rfl) ?hyv ?onw
              case hyv =>
                intro wz hSw
                go_simp
                try rfl
              case onw =>
                try simp only [Act.put, List.setIfInBounds_toArray, List.set_cons_zero, List.set_cons_succ]
                refine' wpAnyL_take (i := 5) (oi := ⟨some 62, _, _, _, _, _⟩) (v := _) rfl (by kernel_rfl) (by kernel_rfl) (by kernel_rfl) (by kernel_rfl) (fun _ _ _ h => h) hH0 (by rfl) ?hyv ?onw
                case hyv =>
                  intro wz hSw
                  have zc0 := (hSw.cell (p := ⟨w.heap.size, 0, none⟩) yS).trans s0
                  have zc1 := (hSw.cell (p := ⟨w.heap.size, 1, none⟩) yS).trans s1
                  have zc2 := (hSw.cell (p := ⟨w.heap.size, 2, none⟩) yS).trans s2
                  have zc3 := (hSw.cell (p := ⟨w.heap.size, 3, none⟩) yS).trans s3
                  have zc4 := (hSw.cell (p := ⟨w.heap.size, 4, none⟩) yS).trans s4
                  have zc5 := (hSw.cell (p := ⟨w.heap.size, 5, none⟩) yS).trans s5
                  have zc6 := (hSw.cell (p := ⟨mb, 4, none⟩) yM).trans m4
                  go_simp
                  try rfl
                case onw =>
                  try simp only [Act.put, List.setIfInBounds_toArray, List.set_cons_zero, List.set_cons_succ]
                  refine' wpAnyL_take (i := 6) (oi := ⟨some 63, _, _, _, _, _⟩) (v := _) rfl (by kernel_rfl) (by kernel_rfl) (by kernel_rfl) (by kernel_rfl) (fun _ _ _ h => h) hH0 (by rfl) ?hyv ?onw
                  case hyv =>
                    intro wz hSw
                    go_simp
                    try rfl
                  case onw =>
                    try simp only [Act.put, List.setIfInBounds_toArray, List.set_cons_zero, List.set_cons_succ]
                    refine wpAnyL_one (i := 7) (o := _) rfl (by kernel_rfl) (by rfl) (fun K hK => ?_)
                    go_simp
                    refine (HTi.out wd0 (Br.trans (hH0.mono Br.size))).mono ?_
                    rintro eq wd1 ⟨rfl, bq1⟩
                    have hH1 : Below wr.heap.size wr wd1 := hH0.trans (bq1.mono hH0.size)
                    refine hK.out _ _ (fun _ => hH1) ?_
                    clear hK K
                    try simp only [Act.put, List.setIfInBounds_toArray, List.set_cons_zero, List.set_cons_succ]
                    refine wpAnyL_one (i := 8) (o := _) rfl (by kernel_rfl) (by rfl) (fun K hK => ?_)
                    go_simp
                    refine (applyB_any k x y wd1).mono ?_
                    rintro eq wd2 ⟨rfl, bq2⟩
                    have hH2 : Below wr.heap.size wr wd2 := hH1.trans (bq2.mono hH1.size)
                    refine hK.out _ _ (fun _ => hH2) ?_
                    clear hK K
                    try simp only [Act.put, List.setIfInBounds_toArray, List.set_cons_zero, List.set_cons_succ]
                    refine' wpAnyL_take (i := 9) (oi := ⟨some 5, _, _, _, _, _⟩) (v := _) rfl (by kernel_rfl) (by kernel_rfl) (by kernel_rfl) (by kernel_rfl) (fun _ _ _ h => h) hH2 (by rfl) ?hyv ?onw
                    case hyv =>
                      intro wz hSw
                      go_simp
                      try rfl
                    case onw =>
                      try simp only [Act.put, List.setIfInBounds_toArray, List.set_cons_zero, List.set_cons_succ]
                      refine wpAnyL_done (by kernel_rfl) ?_ _
                      go_wp2_with fail
                      go_roundg (nn - (i + 1))
                      case measure => omega
                      case rel => exact ⟨i + 1, _, by omega, rfl, by go_num, rfl, HR1, hbr.trans (hH2.mono hbr.size)⟩
set_option maxHeartbeats 16000000 in
theorem doScan_any {w : World} {mb cb : Nat} {c : Int} {vP vG vS : Value} {nc : Nat} {M : List Int} (hm : MaAt w mb cb c vP vG vS nc) (hl : LB w cb M) (hn : nc = M.length) (hc : (M.length : Int) = c) (hcM : c ≤ 6000) {ok : Nat → Prop} (hok : ∀ i, ok i → i ≠ cb) (k : Int) (nn tn : Nat) (ht : (tn : Int) + nn ≤ c) (hn3 : (nn : Int) ≤ 300) {F E : List Pu} {aF aE : Option Addr} {nF cF nE cE : Nat} (hF : HPu ok w (.slice aF nF cF) F) (hfF : Lo.Fit c 1 F) (hE : HPu ok w (.slice aE nE cE) E) (hfE : Lo.Fit c nn E) : Calls Tryd.prog 29 #[.pointer (some ⟨mb, 0, none⟩), .agg #[.int .i64 4, .int .i64 k, .int .i64 (nn : Int), .int .i64 (tn : Int), .slice aF nF cF, .slice aE nE cE]] w (DoPost w cb (Lo.scanL k tn E nn 0 (Lo.tree M 0 F) M)) := by
  have b1 : Below w.heap.size w (w.alloc (.cells #[.int .i64 4, .int .i64 k, .int .i64 (nn : Int), .int .i64 (tn : Int), .slice aF nF cF, .slice aE nE cE] 54 (0, 0))) := (Below.refl _ _).alloc (Nat.le_refl _) _
  have kS := heap_new w (.cells #[.int .i64 4, .int .i64 k, .int .i64 (nn : Int), .int .i64 (tn : Int), .slice aF nF cF, .slice aE nE cE] 54 (0, 0))
  have hm1 := hm.past (aside b1)
  have hl1 := hl.under b1
  have hcb := hl.lt
  have hne := hm.ne
  have HT := hide (fun W M' (a : Aside [cb] w.heap.size w W) (h : LB W cb M') (hM : M'.length = M.length) (i : Nat) (hi : i < nn) => tree47_ma (hm.past a) h (hn.trans hM.symm) (by rw [hM]; exact hc) hcM (hE.past a hok) hfE hn3 i (by omega))
  have hTF : ∀ W, Below w.heap.size w W → Calls Tryd.prog 47 #[.pointer (some ⟨mb, 0, none⟩), .slice aF nF cF, .int .i64 0] W fun e w' => e = .returned (.int .i64 (Lo.tree M 0 F)) ∧ Below W.heap.size W w' := fun W a => tree47_ma (hm.past (aside a)) (hl.under a) hn hc hcM (hF.under a) hfF (by decide) 0 (by decide)
  have htn : tn + nn ≤ M.length := by omega
  have hML : M.length ≤ 6000 := by omega
  obtain ⟨R, hR⟩ : ∃ R, R = Lo.scanL k tn E nn 0 (Lo.tree M 0 F) M := ⟨_, rfl⟩
  rw [← hR]
  generalize Lo.tree M 0 F = x0 at hTF hR
  have HTF := hide hTF
  have HR := hide (show R = Lo.scanL k tn E (nn - 0) 0 x0 M from hR)
  clear hR hTF
  go_enter Tryd.func29, Tryd.ntmps29
  go_upto_region 1 with fail
  generalize (w.alloc (.cells #[.int .i64 4, .int .i64 k, .int .i64 (nn : Int), .int .i64 (tn : Int), .slice aF nF cF, .slice aE nE cE] 54 (0, 0))) = w1 at b1 kS hm1 hl1 ⊢
  have s0 := cell_of kS 0
  have s1 := cell_of kS 1
  have s2 := cell_of kS 2
  have s3 := cell_of kS 3
  have s4 := cell_of kS 4
  have s5 := cell_of kS 5
  simp at s0 s1 s2 s3 s4 s5
  have kC0 := hl1
  have HNC := hide hn
  clear hm hl hE hF hl1 hok hn hc hcM hfE hfF
  go_upto_region 20 with (go_at_call 47; refine (HTF.out _ b1).mono ?_; rintro e w2 ⟨rfl, b2⟩)
  have B2 := b1.trans (b2.mono b1.size)
  have kS2 := (b2.block _ (lt_of kS)).trans kS
  have hm2 := hm1.past (aside b2)
  have hl2 := kC0.under b2
  clear s0 s1 s2 s3 s4 s5 kC0 kS hm1 HTF
  have s0 := cell_of kS2 0
  have s1 := cell_of kS2 1
  have s2 := cell_of kS2 2
  have s3 := cell_of kS2 3
  have s4 := cell_of kS2 4
  have s5 := cell_of kS2 5
  simp at s0 s1 s2 s3 s4 s5
  go_wp2_with fail
  go_loopg [7, 8, 83] nn (fun kq u7 u8 v wr => ∃ (i : Nat) (M' : List Int) (x : Int), i ≤ nn ∧ kq = nn - i ∧ v = .int .i64 (i : Nat) ∧ u7 = .int .i64 x ∧ Hid (R = Lo.scanL k tn E (nn - i) i x M') ∧ Hid (LB wr cb M' ∧ M'.length = M.length) ∧ Aside [cb] w2.heap.size w2 wr)
  case atStart => exact ⟨0, M, x0, Nat.zero_le _, rfl, rfl, rfl, HR, hide ⟨hl2, rfl⟩, Aside.refl _⟩
  case round =>
    clear HR s0 s1 s2 s3 s4 s5 hl2
    obtain ⟨i, M', x, hi, rfl, rfl, rfl, H, HL, hbr⟩ := hrel
    have Br := (aside B2).trans hbr B2.size
    have kSr := hbr.keep kS2 (lt_of kS2) (by simp; omega)
    have hmr := hm2.past hbr
    have s0 := cell_of kSr 0
    have s1 := cell_of kSr 1
    have s2 := cell_of kSr 2
    have s3 := cell_of kSr 3
    have s4 := cell_of kSr 4
    have s5 := cell_of kSr 5
    have m4 := cell_of hmr.m 4
    simp at s0 s1 s2 s3 s4 s5 m4
    have yS := lt_of kSr
    have yM := lt_of hmr.m
    by_cases hlt : i < nn
    case neg =>
      have hin : i = nn := by omega
      subst hin
      have HZ := hide (show R = M' by rw [H.out, Nat.sub_self]; rfl)
      clear H
      go_wp2_with fail
      exact bodyPost_end (v := .tuple #[]) (by simp [results, Tryd.results29]) rfl ⟨rfl, by rw [HZ.out]; exact HL.out.1, Br⟩
    case pos =>
      obtain ⟨kC0, hM'⟩ := HL.out
      have hT := fun W (a : Aside [cb] w.heap.size w W) (h : LB W cb M') => HT.out W M' a h hM' i hlt
      have hR1 := H.out
      rw [show nn - i = (nn - (i + 1)) + 1 by omega, Lo.scanL] at hR1
      obtain ⟨z, hz⟩ : ∃ z, z = tn + i := ⟨_, rfl⟩
      rw [show ((tn : Int) + (i : Int)).toNat = z by omega] at hR1
      generalize Lo.tree M' (i : Int) E = y at hT hR1
      have HTi := hide hT
      have HR1 := hide hR1
      have HW : Hid (IntKind.i64.wrap ((tn : Int) + (i : Int)) = (z : Int)) := hide (by
        have h2 : IntKind.i64.wrap ((tn : Int) + (i : Int)) = (tn : Int) + (i : Int) := i64_in _ (by omega)
        have h3 : ((tn : Int) + (i : Int)) = (z : Int) := by omega
        exact h2.trans h3)
      have hzl : z < M'.length := by omega
      have hznc : z < nc := by have := HNC.out; omega
      have HM' := hide hM'
      clear hz hT hR1 H HL hM'
      obtain ⟨yy, hyy⟩ : ∃ yy, yy = apT k x y := ⟨_, rfl⟩
      rw [← hyy] at HR1
      have HYY := hide hyy
      clear hyy
      go_upto_region 23 with fail
      go_cut [7] (fun v wd => v = .int .i64 yy ∧ Aside [cb] wr.heap.size wr wd ∧ LB wd cb M')
      case first =>
        refine wp_region_late (fun w' => Aside [cb] wr.heap.size wr w') (fun _ => false) (by kernel_rfl) ?_
        have hH0 : Aside [cb] wr.heap.size wr wr.drew := (Aside.refl _).drew
        have kC : LB wr.drew cb M' := kC0
        generalize wr.drew = wd0 at hH0 kC ⊢
        refine' wpAnyL_take (i := 0) (oi := ⟨some 86, _, _, _, _, _⟩) (v := _) rfl (by kernel_rfl) (by kernel_rfl) (by kernel_rfl) (by kernel_rfl) (fun _ _ _ h => h) hH0 (by rfl) ?hyv ?onw
        case hyv =>
          intro wz hSw
          go_simp
          try rfl
        case onw =>
          try simp only [Act.put, List.setIfInBounds_toArray, List.set_cons_zero, List.set_cons_succ]
          refine' wpAnyL_take (i := 1) (oi := ⟨some 87, _, _, _, _, _⟩) (v := _) rfl (by kernel_rfl) (by kernel_rfl) (by kernel_rfl) (by kernel_rfl) (fun _ _ _ h => h) hH0 (by rfl) ?hyv ?onw
          case hyv =>
            intro wz hSw
            have zc0 := (aside_cell hSw (p := ⟨w.heap.size, 0, none⟩) yS (by simp; omega)).trans s0
            have zc1 := (aside_cell hSw (p := ⟨w.heap.size, 1, none⟩) yS (by simp; omega)).trans s1
            have zc2 := (aside_cell hSw (p := ⟨w.heap.size, 2, none⟩) yS (by simp; omega)).trans s2
            have zc3 := (aside_cell hSw (p := ⟨w.heap.size, 3, none⟩) yS (by simp; omega)).trans s3
            have zc4 := (aside_cell hSw (p := ⟨w.heap.size, 4, none⟩) yS (by simp; omega)).trans s4
            have zc5 := (aside_cell hSw (p := ⟨w.heap.size, 5, none⟩) yS (by simp; omega)).trans s5
            have zc6 := (aside_cell hSw (p := ⟨mb, 4, none⟩) yM (by simpa using hne)).trans m4
            go_simp
            try rfl
          case onw =>
            try simp only [Act.put, List.setIfInBounds_toArray, List.set_cons_zero, List.set_cons_succ]
            refine' wpAnyL_take (i := 2) (oi := ⟨some 88, _, _, _, _, _⟩) (v := _) rfl (by kernel_rfl) (by kernel_rfl) (by kernel_rfl) (by kernel_rfl) (fun _ _ _ h => h) hH0 (by rfl) ?hyv ?onw
            case hyv =>
              intro wz hSw
              go_simp
              try rfl
            case onw =>
              try simp only [Act.put, List.setIfInBounds_toArray, List.set_cons_zero, List.set_cons_succ]
              refine' wpAnyL_take (i := 3) (oi := ⟨some 89, _, _, _, _, _⟩) (v := _) rfl (by kernel_rfl) (by kernel_rfl) (by kernel_rfl) (by kernel_rfl) (fun _ _ _ h => h) hH0 (by rfl) ?hyv ?onw
              case hyv =>
                intro wz hSw
                go_simp
                try rfl
              case onw =>
                try simp only [Act.put, List.setIfInBounds_toArray, List.set_cons_zero, List.set_cons_succ]
                refine' wpAnyL_take (i := 4) (oi := ⟨some 90, _, _, _, _, _⟩) (v := _) rfl (by kernel_rfl) (by kernel_rfl) (by kernel_rfl) (by kernel_rfl) (fun _ _ _ h => h) hH0 (by rfl) ?hyv ?onw
                case hyv =>
                  intro wz hSw
                  go_simp
                  try rfl
                case onw =>
                  try simp only [Act.put, List.setIfInBounds_toArray, List.set_cons_zero, List.set_cons_succ]
                  refine' wpAnyL_take (i := 5) (oi := ⟨some 91, _, _, _, _, _⟩) (v := _) rfl (by kernel_rfl) (by kernel_rfl) (by kernel_rfl) (by kernel_rfl) (fun _ _ _ h => h) hH0 (by rfl) ?hyv ?onw
                  case hyv =>
                    intro wz hSw
                    have zc0 := (aside_cell hSw (p := ⟨w.heap.size, 0, none⟩) yS (by simp; omega)).trans s0
                    have zc1 := (aside_cell hSw (p := ⟨w.heap.size, 1, none⟩) yS (by simp; omega)).trans s1
                    have zc2 := (aside_cell hSw (p := ⟨w.heap.size, 2, none⟩) yS (by simp; omega)).trans s2
                    have zc3 := (aside_cell hSw (p := ⟨w.heap.size, 3, none⟩) yS (by simp; omega)).trans s3
                    have zc4 := (aside_cell hSw (p := ⟨w.heap.size, 4, none⟩) yS (by simp; omega)).trans s4
                    have zc5 := (aside_cell hSw (p := ⟨w.heap.size, 5, none⟩) yS (by simp; omega)).trans s5
                    have zc6 := (aside_cell hSw (p := ⟨mb, 4, none⟩) yM (by simpa using hne)).trans m4
                    go_simp
                    try rfl
                  case onw =>
                    try simp only [Act.put, List.setIfInBounds_toArray, List.set_cons_zero, List.set_cons_succ]
                    refine' wpAnyL_take (i := 6) (oi := ⟨some 92, _, _, _, _, _⟩) (v := _) rfl (by kernel_rfl) (by kernel_rfl) (by kernel_rfl) (by kernel_rfl) (fun _ _ _ h => h) hH0 (by rfl) ?hyv ?onw
                    case hyv =>
                      intro wz hSw
                      go_simp
                      try rfl
                    case onw =>
                      try simp only [Act.put, List.setIfInBounds_toArray, List.set_cons_zero, List.set_cons_succ]
                      refine wpAnyL_one (i := 7) (o := _) rfl (by kernel_rfl) (by rfl) (fun K hK => ?_)
                      go_simp
                      refine (HTi.out wd0 (Br.trans hH0 Br.size) kC).mono ?_
                      rintro eq wd1 ⟨rfl, bq1⟩
                      have hH1 : Aside [cb] wr.heap.size wr wd1 := hH0.trans (aside bq1) hH0.size
                      have kC2 := kC.under bq1
                      refine hK.out _ _ (fun _ => hH1) ?_
                      clear hK K
                      try simp only [Act.put, List.setIfInBounds_toArray, List.set_cons_zero, List.set_cons_succ]
                      refine wpAnyL_one (i := 8) (o := _) rfl (by kernel_rfl) (by rfl) (fun K hK => ?_)
                      go_simp
                      refine (applyB_any k x y wd1).mono ?_
                      rintro eq wd2 ⟨rfl, bq2⟩
                      have hH2 : Aside [cb] wr.heap.size wr wd2 := hH1.trans (aside bq2) hH1.size
                      have kC3 := kC2.under bq2
                      refine hK.out _ _ (fun _ => hH2) ?_
                      clear hK K
                      try simp only [Act.put, List.setIfInBounds_toArray, List.set_cons_zero, List.set_cons_succ]
                      refine' wpAnyL_take (i := 9) (oi := ⟨some 7, _, _, _, _, _⟩) (v := _) rfl (by kernel_rfl) (by kernel_rfl) (by kernel_rfl) (by kernel_rfl) (fun _ _ _ h => h) hH2 (by rfl) ?hyv ?onw
                      case hyv =>
                        intro wz hSw
                        go_simp
                        try rfl
                      case onw =>
                        try simp only [Act.put, List.setIfInBounds_toArray, List.set_cons_zero, List.set_cons_succ]
                        refine wpAnyL_done (by kernel_rfl) ?_ _
                        go_wp2_with fail
                        go_meet
                        case rel => exact ⟨by rw [HYY.out], hH2, kC3⟩
      case rest =>
        obtain ⟨rfl, bc, kCc⟩ := hcut
        have Bc := hbr.trans bc hbr.size
        have kSc := bc.keep kSr (lt_of kSr) (by simp; omega)
        have hmc := hmr.past bc
        clear s0 s1 s2 s3 s4 s5 m4 HTi HYY kC0 kSr hmr yS yM
        have s0 := cell_of kSc 0
        have s1 := cell_of kSc 1
        have s2 := cell_of kSc 2
        have s3 := cell_of kSc 3
        have s4 := cell_of kSc 4
        have s5 := cell_of kSc 5
        have m4 := cell_of hmc.m 4
        simp at s0 s1 s2 s3 s4 s5 m4
        have yS := lt_of kSc
        have yM := lt_of hmc.m
        go_upto_region 24 with fail
        refine wp_region_late (fun w' => Aside [cb] wc.heap.size wc w') (fun _ => false) (by kernel_rfl) ?_
        have hH0 : Aside [cb] wc.heap.size wc wc.drew := (Aside.refl _).drew
        have kC : LB wc.drew cb M' := kCc
        generalize wc.drew = wd0 at hH0 kC ⊢
        refine' wpAnyL_take (i := 0) (oi := ⟨some 95, _, _, _, _, _⟩) (v := _) rfl (by kernel_rfl) (by kernel_rfl) (by kernel_rfl) (by kernel_rfl) (fun _ _ _ h => h) hH0 (by rfl) ?hyv ?onw
        case hyv =>
          intro wz hSw
          go_simp
          try rfl
        case onw =>
          try simp only [Act.put, List.setIfInBounds_toArray, List.set_cons_zero, List.set_cons_succ]
          refine' wpAnyL_take (i := 1) (oi := ⟨some 96, _, _, _, _, _⟩) (v := _) rfl (by kernel_rfl) (by kernel_rfl) (by kernel_rfl) (by kernel_rfl) (fun _ _ _ h => h) hH0 (by rfl) ?hyv ?onw
          case hyv =>
            intro wz hSw
            go_simp
            try rfl
          case onw =>
            try simp only [Act.put, List.setIfInBounds_toArray, List.set_cons_zero, List.set_cons_succ]
            refine' wpAnyL_take (i := 2) (oi := ⟨some 97, _, _, _, _, _⟩) (v := _) rfl (by kernel_rfl) (by kernel_rfl) (by kernel_rfl) (by kernel_rfl) (fun _ _ _ h => h) hH0 (by rfl) ?hyv ?onw
            case hyv =>
              intro wz hSw
              go_simp
              try rfl
            case onw =>
              try simp only [Act.put, List.setIfInBounds_toArray, List.set_cons_zero, List.set_cons_succ]
              refine' wpAnyL_take (i := 3) (oi := ⟨some 98, _, _, _, _, _⟩) (v := _) rfl (by kernel_rfl) (by kernel_rfl) (by kernel_rfl) (by kernel_rfl) (fun _ _ _ h => h) hH0 (by rfl) ?hyv ?onw
              case hyv =>
                intro wz hSw
                have zc0 := (aside_cell hSw (p := ⟨w.heap.size, 0, none⟩) yS (by simp; omega)).trans s0
                have zc1 := (aside_cell hSw (p := ⟨w.heap.size, 1, none⟩) yS (by simp; omega)).trans s1
                have zc2 := (aside_cell hSw (p := ⟨w.heap.size, 2, none⟩) yS (by simp; omega)).trans s2
                have zc3 := (aside_cell hSw (p := ⟨w.heap.size, 3, none⟩) yS (by simp; omega)).trans s3
                have zc4 := (aside_cell hSw (p := ⟨w.heap.size, 4, none⟩) yS (by simp; omega)).trans s4
                have zc5 := (aside_cell hSw (p := ⟨w.heap.size, 5, none⟩) yS (by simp; omega)).trans s5
                have zc6 := (aside_cell hSw (p := ⟨mb, 4, none⟩) yM (by simpa using hne)).trans m4
                go_simp
                try rfl
              case onw =>
                try simp only [Act.put, List.setIfInBounds_toArray, List.set_cons_zero, List.set_cons_succ]
                refine' wpAnyL_take (i := 4) (oi := ⟨some 99, _, _, _, _, _⟩) (v := _) rfl (by kernel_rfl) (by kernel_rfl) (by kernel_rfl) (by kernel_rfl) (fun _ _ _ h => h) hH0 (by rfl) ?hyv ?onw
                case hyv =>
                  intro wz hSw
                  go_simp
                  try rfl
                case onw =>
                  try simp only [Act.put, List.setIfInBounds_toArray, List.set_cons_zero, List.set_cons_succ]
                  refine' wpAnyL_take (i := 5) (oi := ⟨some 100, _, _, _, _, _⟩) (v := _) rfl (by kernel_rfl) (by kernel_rfl) (by kernel_rfl) (by kernel_rfl) (fun _ _ _ h => h) hH0 (by rfl) ?hyv ?onw
                  case hyv =>
                    intro wz hSw
                    have zc0 := (aside_cell hSw (p := ⟨w.heap.size, 0, none⟩) yS (by simp; omega)).trans s0
                    have zc1 := (aside_cell hSw (p := ⟨w.heap.size, 1, none⟩) yS (by simp; omega)).trans s1
                    have zc2 := (aside_cell hSw (p := ⟨w.heap.size, 2, none⟩) yS (by simp; omega)).trans s2
                    have zc3 := (aside_cell hSw (p := ⟨w.heap.size, 3, none⟩) yS (by simp; omega)).trans s3
                    have zc4 := (aside_cell hSw (p := ⟨w.heap.size, 4, none⟩) yS (by simp; omega)).trans s4
                    have zc5 := (aside_cell hSw (p := ⟨w.heap.size, 5, none⟩) yS (by simp; omega)).trans s5
                    have zc6 := (aside_cell hSw (p := ⟨mb, 4, none⟩) yM (by simpa using hne)).trans m4
                    go_simp
                    try rfl
                  case onw =>
                    try simp only [Act.put, List.setIfInBounds_toArray, List.set_cons_zero, List.set_cons_succ]
                    refine' wpAnyL_take (i := 6) (oi := ⟨some 101, _, _, _, _, _⟩) (v := _) rfl (by kernel_rfl) (by kernel_rfl) (by kernel_rfl) (by kernel_rfl) (fun _ _ _ h => h) hH0 (by rfl) ?hyv ?onw
                    case hyv =>
                      intro wz hSw
                      go_simp
                      try rfl
                    case onw =>
                      try simp only [Act.put, List.setIfInBounds_toArray, List.set_cons_zero, List.set_cons_succ]
                      refine' wpAnyL_take (i := 7) (oi := ⟨some 102, _, _, _, _, _⟩) (v := .int .i64 (z : Int)) rfl (by kernel_rfl) (by kernel_rfl) (by kernel_rfl) (by kernel_rfl) (fun _ _ _ h => h) hH0 (by rfl) ?hyv ?onw
                      case hyv =>
                        intro wz hSw
                        go_simp
                        rw [HW.out]
                      case onw =>
                        try simp only [Act.put, List.setIfInBounds_toArray, List.set_cons_zero, List.set_cons_succ]
                        refine' wpAnyL_take (i := 8) (oi := ⟨some 103, _, _, _, _, _⟩) (v := _) rfl (by kernel_rfl) (by kernel_rfl) (by kernel_rfl) (by kernel_rfl) (fun _ _ _ h => h) hH0 (by rfl) ?hyv ?onw
                        case hyv =>
                          intro wz hSw
                          go_simp
                          try rfl
                        case onw =>
                          try simp only [Act.put, List.setIfInBounds_toArray, List.set_cons_zero, List.set_cons_succ]
                          refine' wpAnyL_take (i := 9) (oi := ⟨some 104, _, _, _, _, _⟩) (v := _) rfl (by kernel_rfl) (by kernel_rfl) (by kernel_rfl) (by kernel_rfl) (fun _ _ _ h => h) hH0 (by rfl) ?hyv ?onw
                          case hyv =>
                            intro wz hSw
                            go_simp
                            try rfl
                          case onw =>
                            try simp only [Act.put, List.setIfInBounds_toArray, List.set_cons_zero, List.set_cons_succ]
                            refine wpAnyL_one (i := 10) (o := _) rfl (by kernel_rfl) (by rfl) (fun K hK => ?_)
                            have fr := kC.free z
                            have st0 := kC.at (i := z) hzl
                            go_simp
                            have hH1 : Aside [cb] wc.heap.size wc (wd0.setCell ⟨cb, z, none⟩ (.int .i64 yy)) := hH0.trans (Aside.setCell (B := wd0.heap.size) (by simp) _) hH0.size
                            refine hK.out _ _ (fun _ => hH1) ?_
                            clear hK K fr st0
                            try simp only [Act.put, List.setIfInBounds_toArray, List.set_cons_zero, List.set_cons_succ]
                            have kE := kC.set z yy
                            generalize wd0.setCell ⟨cb, z, none⟩ (.int .i64 yy) = wd1 at hH1 kE ⊢
                            refine wpAnyL_done (by kernel_rfl) ?_ _
                            go_wp2_with fail
                            go_roundg (nn - (i + 1))
                            case measure => omega
                            case rel => exact ⟨i + 1, M'.set z yy, yy, by omega, rfl, by go_num, rfl, HR1, hide ⟨kE, by rw [List.length_set]; exact HM'.out⟩, Bc.trans hH1 Bc.size⟩
end Go.Proofs.YtgjdkgkgbmbffaaDoor
