/-
  DERIVED. THE WALKS of sys.Check at a system without variables whose one Out is 0.
-/
import Derived.Test.YtfhjejmadhcmnaaDoorSy5
import Derived.Laws.EntriesVeiled
namespace Go.Proofs.YtfhjejmadhcmnaaDoor
open Go.Shelf Go.RowKit Go.Lib Go.IntWalk
set_option linter.unusedVariables false
set_option linter.unusedSimpArgs false
set_option maxRecDepth 100000

/-- the look at that system, in a block -/
structure LK (w : World) (lb g : Nat) : Prop where
  look : ∃ mv, w.heap[lb]? = some (.cells #[.slice none 0 0, .slice none 0 0, .slice (some ⟨g, 0, none⟩) 1 1, .slice none 0 0, mv] 55 (0, 0))
  row : w.heap[g]? = some (.cells #[.int .i64 0] 3 (0, 0))
theorem LK.under {w w' : World} {lb g : Nat} (h : LK w lb g) (b : Below w.heap.size w w') : LK w' lb g := by
  obtain ⟨⟨mv, h1⟩, h2⟩ := h
  exact ⟨⟨mv, (b.block _ (lt_of h1)).trans h1⟩, (b.block _ (lt_of h2)).trans h2⟩

set_option maxHeartbeats 1000000 in
theorem isNone_any {w : World} {lb g : Nat} (h : LK w lb g) : Calls Tryd.prog 45 #[.pointer (some ⟨lb, 0, none⟩), .int .i64 0] w fun e w' => e = .returned (.bool true) ∧ w' = w := by
  obtain ⟨⟨mv, h1⟩, h2⟩ := h
  have c0 := cell_of h1 0
  simp at c0
  go_enter Tryd.func45, Tryd.ntmps45
  go_wp2
  go_ret
  exact ⟨rfl, rfl⟩
set_option maxHeartbeats 1000000 in
theorem codeOfNumber_any {w : World} {lb g : Nat} (h : LK w lb g) : Calls Tryd.prog 34 #[.pointer (some ⟨lb, 0, none⟩), .int .i64 0] w fun e w' => e = .returned (.int .i64 16) ∧ w' = w := by
  have hc := isNone_any h
  go_enter Tryd.func34, Tryd.ntmps34
  go_wp2_with (go_at_call 45; refine hc.mono ?_; rintro e w' ⟨rfl, rfl⟩)
  go_ret
  exact ⟨rfl, rfl⟩
theorem atSystem_any (n : Int) (w : World) : Calls Tryd.prog 32 #[.int .i64 n] w fun e w' => e = .returned (.int .i64 (-1)) ∧ w' = w := by
  go_enter Tryd.func32, Tryd.ntmps32
  go_wp2
  go_ret
  exact ⟨rfl, rfl⟩

set_option maxHeartbeats 1000000 in
theorem firstVar_nil (f g : Value) (w : World) : Calls Tryd.prog 26 #[.slice none 0 0, f, g] w fun e w' => e = .returned (.agg #[.int .i64 0, .int .i64 0]) ∧ Below w.heap.size w w' := by
  have bA : Below w.heap.size w (w.alloc (.cells #[.int .i64 0, .int .i64 0] 38 (0, 0))) := (Below.refl _ _).alloc (Nat.le_refl _) _
  go_enter Tryd.func26, Tryd.ntmps26
  go_wp2_with fail
  refine wp_loop_once ?_
  go_wp2
  exact bodyPost_ret (v := .agg #[.int .i64 0, .int .i64 0]) (by simp [results, Tryd.results26, go_sem]) rfl ⟨rfl, (Below.refl _ _).alloc (Nat.le_refl _) _⟩
set_option maxHeartbeats 1000000 in
theorem firstInt_nil (f g : Value) (w : World) : Calls Tryd.prog 30 #[.slice none 0 0, f, g] w fun e w' => e = .returned (.agg #[.int .i64 0, .int .i64 0]) ∧ Below w.heap.size w w' := by
  have bA : Below w.heap.size w (w.alloc (.cells #[.int .i64 0, .int .i64 0] 38 (0, 0))) := (Below.refl _ _).alloc (Nat.le_refl _) _
  go_enter Tryd.func30, Tryd.ntmps30
  go_wp2_with fail
  refine wp_loop_once ?_
  go_wp2
  exact bodyPost_ret (v := .agg #[.int .i64 0, .int .i64 0]) (by simp [results, Tryd.results30, go_sem]) rfl ⟨rfl, (Below.refl _ _).alloc (Nat.le_refl _) _⟩
set_option maxHeartbeats 2000000 in
theorem firstInt_one {w : World} {lb g : Nat} (h : LK w lb g) : Calls Tryd.prog 30 #[.slice (some ⟨g, 0, none⟩) 1 1, .func (.func 34) #[.pointer (some ⟨lb, 0, none⟩)] #[], .func (.func 32) #[] #[]] w fun e w' => e = .returned (.agg #[.int .i64 16, .int .i64 (-1)]) ∧ Below w.heap.size w w' := by
  have bA : Below w.heap.size w (w.alloc (.cells #[.int .i64 0, .int .i64 0] 38 (0, 0))) := (Below.refl _ _).alloc (Nat.le_refl _) _
  have h1 := h.under bA
  have hc := codeOfNumber_any h1
  have hs := fun n W => atSystem_any n W
  have e34 : ∀ args w, (callFunc 34 args).run Tryd.prog w = .ok (.enter 34 args) w := enters_of Tryd.func34 (by kernel_rfl) rfl
  have e32 : ∀ args w, (callFunc 32 args).run Tryd.prog w = .ok (.enter 32 args) w := enters_of Tryd.func32 (by kernel_rfl) rfl
  have hg : g < w.heap.size := lt_of h.row
  have c0 := cell_of h1.row 0
  simp at c0
  go_enter Tryd.func30, Tryd.ntmps30
  go_wp2_with fail
  refine wp_loop_once ?_
  go_wp2_with (first | (go_at_call 34; refine hc.mono ?_; rintro e w' ⟨rfl, rfl⟩) | (go_at_call 32; refine (hs _ _).mono ?_; rintro e w' ⟨rfl, rfl⟩))
  exact bodyPost_ret (v := .agg #[.int .i64 16, .int .i64 (-1)]) (by simp [results, Tryd.results30, go_sem]) rfl ⟨rfl, (Below.refl _ _).alloc (Nat.le_refl _) _⟩
/-- .. and what holds its address -/
structure LKP (w : World) (pb lb g : Nat) : Prop extends LK w lb g where
  at_ : w.heap[pb]? = some (.cells #[.pointer (some ⟨lb, 0, none⟩)] 52 (0, 0))
theorem LKP.under {w w' : World} {pb lb g : Nat} (h : LKP w pb lb g) (b : Below w.heap.size w w') : LKP w' pb lb g := ⟨h.toLK.under b, (b.block _ (lt_of h.at_)).trans h.at_⟩
set_option maxHeartbeats 2000000 in
theorem check1_any {w : World} {pb lb g : Nat} (h : LKP w pb lb g) : Calls Tryd.prog 25 #[.pointer (some ⟨pb, 0, none⟩)] w fun e w' => e = .returned (.agg #[.int .i64 0, .int .i64 0]) ∧ Below w.heap.size w w' := by
  have bA : Below w.heap.size w (w.alloc (.cells #[.int .i64 0, .int .i64 0] 38 (0, 0))) := (Below.refl _ _).alloc (Nat.le_refl _) _
  have KA := heap_new w (.cells #[.int .i64 0, .int .i64 0] 38 (0, 0))
  have h1 := h.under bA
  have hb := lt_of h.at_
  obtain ⟨⟨⟨mv, k1⟩, k2⟩, k3⟩ := h1
  have c0 := cell_of k1 0
  have c3 := cell_of k3 0
  simp at c0 c3
  go_enter Tryd.func25, Tryd.ntmps25
  go_upto_region 1 with fail
  generalize (w.alloc (.cells #[.int .i64 0, .int .i64 0] 38 (0, 0))) = W at bA KA k1 k2 k3 c0 c3 ⊢
  have hc := firstVar_nil (.func (.func 27) #[] #[]) (.func (.func 28) #[] #[]) W
  go_wp2_with fail
  refine hc.mono ?_
  rintro e w1 ⟨rfl, b1⟩
  have K1 := (b1.block _ (lt_of KA)).trans KA
  have hl := lt_of K1
  have f0 := free_of K1 0
  have f1 := free_of K1 1
  have d0 := cell_of K1 0
  have d1 := cell_of K1 1
  simp at d0 d1
  go_wp2
  exact bodyPost_ret (v := .agg #[.int .i64 0, .int .i64 0]) (by simp [results, Tryd.results25, go_sem, d0, d1]) rfl ⟨rfl, ((bA.trans (b1.mono bA.size)).setCell (by simp) _).setCell (by simp) _⟩
set_option maxHeartbeats 4000000 in
theorem check2_any {w : World} {pb lb g : Nat} (h : LKP w pb lb g) : Calls Tryd.prog 29 #[.pointer (some ⟨pb, 0, none⟩)] w fun e w' => e = .returned (.agg #[.int .i64 0, .int .i64 (0)]) ∧ Below w.heap.size w w' := by
  have bA : Below w.heap.size w (w.alloc (.cells #[.int .i64 0, .int .i64 0] 38 (0, 0))) := (Below.refl _ _).alloc (Nat.le_refl _) _
  have KA := heap_new w (.cells #[.int .i64 0, .int .i64 0] 38 (0, 0))
  have h1 := h.under bA
  have hb := lt_of h.at_
  go_enter Tryd.func29, Tryd.ntmps29
  go_upto_region 1 with fail
  generalize (w.alloc (.cells #[.int .i64 0, .int .i64 0] 38 (0, 0))) = W at bA KA h1 ⊢
  have hD : LKP W.drew pb lb g := h1.under (Below.refl _ _).drew
  have bD : Below w.heap.size w W.drew := bA.trans ((Below.refl _ _).drew.mono bA.size)
  have KD : W.drew.heap[w.heap.size]? = some (.cells #[.int .i64 0, .int .i64 0] 38 (0, 0)) := KA
  refine wp_region_late (fun w' => w'.cell? ⟨pb, 0, none⟩ = some (.pointer (some ⟨lb, 0, none⟩)) ∧ w'.cell? ⟨lb, 1, none⟩ = some (.slice none 0 0)) (fun _ => false) (by kernel_rfl) ?_
  generalize W.drew = wd at hD bD KD ⊢
  have hc := firstInt_nil (.func (.func 31) #[.pointer (some ⟨lb, 0, none⟩)] #[]) (.func (.func 32) #[] #[]) wd
  have hS : ∀ V, LKP V pb lb g → (V.cell? ⟨pb, 0, none⟩ = some (.pointer (some ⟨lb, 0, none⟩)) ∧ V.cell? ⟨lb, 1, none⟩ = some (.slice none 0 0)) := fun V hV => by
    obtain ⟨⟨⟨mv, k1⟩, k2⟩, k3⟩ := hV
    have c0 := cell_of k1 1
    have c3 := cell_of k3 0
    simp at c0 c3
    exact ⟨c3, c0⟩
  have hH := hS wd hD
  refine' wpAnyL_take (i := 0) (oi := _) (v := _) rfl (by kernel_rfl) (by kernel_rfl) (by kernel_rfl) (by kernel_rfl) (fun _ _ _ h => h) hH (by rfl) ?hyv ?onw
  case hyv =>
    intro wz hSw
    obtain ⟨z0, z1⟩ := hSw
    go_simp
    try rfl
  case onw =>
    try simp only [Act.put, List.setIfInBounds_toArray, List.set_cons_zero, List.set_cons_succ]
    refine' wpAnyL_take (i := 1) (oi := _) (v := _) rfl (by kernel_rfl) (by kernel_rfl) (by kernel_rfl) (by kernel_rfl) (fun _ _ _ h => h) hH (by rfl) ?hyv ?onw
    case hyv =>
      intro wz hSw
      obtain ⟨z0, z1⟩ := hSw
      go_simp
      try rfl
    case onw =>
      try simp only [Act.put, List.setIfInBounds_toArray, List.set_cons_zero, List.set_cons_succ]
      refine' wpAnyL_take (i := 2) (oi := _) (v := _) rfl (by kernel_rfl) (by kernel_rfl) (by kernel_rfl) (by kernel_rfl) (fun _ _ _ h => h) hH (by rfl) ?hyv ?onw
      case hyv =>
        intro wz hSw
        obtain ⟨z0, z1⟩ := hSw
        go_simp
        try rfl
      case onw =>
        try simp only [Act.put, List.setIfInBounds_toArray, List.set_cons_zero, List.set_cons_succ]
        refine' wpAnyL_take (i := 3) (oi := _) (v := _) rfl (by kernel_rfl) (by kernel_rfl) (by kernel_rfl) (by kernel_rfl) (fun _ _ _ h => h) hH (by rfl) ?hyv ?onw
        case hyv =>
          intro wz hSw
          obtain ⟨z0, z1⟩ := hSw
          go_simp
          try rfl
        case onw =>
          try simp only [Act.put, List.setIfInBounds_toArray, List.set_cons_zero, List.set_cons_succ]
          refine' wpAnyL_take (i := 4) (oi := _) (v := _) rfl (by kernel_rfl) (by kernel_rfl) (by kernel_rfl) (by kernel_rfl) (fun _ _ _ h => h) hH (by rfl) ?hyv ?onw
          case hyv =>
            intro wz hSw
            obtain ⟨z0, z1⟩ := hSw
            go_simp
            try rfl
          case onw =>
            try simp only [Act.put, List.setIfInBounds_toArray, List.set_cons_zero, List.set_cons_succ]
            refine' wpAnyL_take (i := 5) (oi := _) (v := _) rfl (by kernel_rfl) (by kernel_rfl) (by kernel_rfl) (by kernel_rfl) (fun _ _ _ h => h) hH (by rfl) ?hyv ?onw
            case hyv =>
              intro wz hSw
              obtain ⟨z0, z1⟩ := hSw
              go_simp
              try rfl
            case onw =>
              try simp only [Act.put, List.setIfInBounds_toArray, List.set_cons_zero, List.set_cons_succ]
              refine' wpAnyL_take (i := 6) (oi := _) (v := _) rfl (by kernel_rfl) (by kernel_rfl) (by kernel_rfl) (by kernel_rfl) (fun _ _ _ h => h) hH (by rfl) ?hyv ?onw
              case hyv =>
                intro wz hSw
                obtain ⟨z0, z1⟩ := hSw
                go_simp
                try rfl
              case onw =>
                try simp only [Act.put, List.setIfInBounds_toArray, List.set_cons_zero, List.set_cons_succ]
                refine wpAnyL_one (i := 7) (o := _) rfl (by kernel_rfl) (by rfl) (fun K hK => ?_)
                go_simp
                refine hc.mono ?_
                rintro e w1 ⟨rfl, b1⟩
                have hH1 := hS w1 (hD.under b1)
                have K1 := (b1.block _ (lt_of KD)).trans KD
                refine hK.out _ _ (fun _ => hH1) ?_
                clear hK K
                try simp only [Act.put, List.setIfInBounds_toArray, List.set_cons_zero, List.set_cons_succ]
                refine wpAnyL_one (i := 8) (o := _) rfl (by kernel_rfl) (by rfl) (fun K hK => ?_)
                have f0 := free_of K1 0
                have f1 := free_of K1 1
                have d0 := cell_of K1 0
                have d1 := cell_of K1 1
                simp at d0 d1
                go_simp
                refine hK.out _ _ (fun _ => ?_) ?_
                · have bb : pb ≠ w.heap.size := by omega
                  have bl : lb ≠ w.heap.size := by
                    obtain ⟨mv, k⟩ := h.look
                    have := lt_of k
                    omega
                  simpa [World.cell?_setCell_other, bb, bl, bb.symm, bl.symm] using hH1
                clear hK K
                try simp only [Act.put, List.setIfInBounds_toArray, List.set_cons_zero, List.set_cons_succ]
                refine wpAnyL_done (by kernel_rfl) ?_ _
                go_wp2
                exact bodyPost_ret (v := .agg #[.int .i64 0, .int .i64 (0)]) (by simp [results, Tryd.results29, go_sem, d0, d1]) rfl ⟨rfl, ((bD.trans (b1.mono bD.size)).setCell (by simp) _).setCell (by simp) _⟩
set_option maxHeartbeats 4000000 in
theorem check3_any {w : World} {pb lb g : Nat} (h : LKP w pb lb g) : Calls Tryd.prog 33 #[.pointer (some ⟨pb, 0, none⟩)] w fun e w' => e = .returned (.agg #[.int .i64 16, .int .i64 (-1)]) ∧ Below w.heap.size w w' := by
  have bA : Below w.heap.size w (w.alloc (.cells #[.int .i64 0, .int .i64 0] 38 (0, 0))) := (Below.refl _ _).alloc (Nat.le_refl _) _
  have KA := heap_new w (.cells #[.int .i64 0, .int .i64 0] 38 (0, 0))
  have h1 := h.under bA
  have hb := lt_of h.at_
  go_enter Tryd.func33, Tryd.ntmps33
  go_upto_region 1 with fail
  generalize (w.alloc (.cells #[.int .i64 0, .int .i64 0] 38 (0, 0))) = W at bA KA h1 ⊢
  have hD : LKP W.drew pb lb g := h1.under (Below.refl _ _).drew
  have bD : Below w.heap.size w W.drew := bA.trans ((Below.refl _ _).drew.mono bA.size)
  have KD : W.drew.heap[w.heap.size]? = some (.cells #[.int .i64 0, .int .i64 0] 38 (0, 0)) := KA
  refine wp_region_late (fun w' => w'.cell? ⟨pb, 0, none⟩ = some (.pointer (some ⟨lb, 0, none⟩)) ∧ w'.cell? ⟨lb, 2, none⟩ = some (.slice (some ⟨g, 0, none⟩) 1 1)) (fun _ => false) (by kernel_rfl) ?_
  generalize W.drew = wd at hD bD KD ⊢
  have hc := firstInt_one hD.toLK
  have hS : ∀ V, LKP V pb lb g → (V.cell? ⟨pb, 0, none⟩ = some (.pointer (some ⟨lb, 0, none⟩)) ∧ V.cell? ⟨lb, 2, none⟩ = some (.slice (some ⟨g, 0, none⟩) 1 1)) := fun V hV => by
    obtain ⟨⟨⟨mv, k1⟩, k2⟩, k3⟩ := hV
    have c0 := cell_of k1 2
    have c3 := cell_of k3 0
    simp at c0 c3
    exact ⟨c3, c0⟩
  have hH := hS wd hD
  refine' wpAnyL_take (i := 0) (oi := _) (v := _) rfl (by kernel_rfl) (by kernel_rfl) (by kernel_rfl) (by kernel_rfl) (fun _ _ _ h => h) hH (by rfl) ?hyv ?onw
  case hyv =>
    intro wz hSw
    obtain ⟨z0, z1⟩ := hSw
    go_simp
    try rfl
  case onw =>
    try simp only [Act.put, List.setIfInBounds_toArray, List.set_cons_zero, List.set_cons_succ]
    refine' wpAnyL_take (i := 1) (oi := _) (v := _) rfl (by kernel_rfl) (by kernel_rfl) (by kernel_rfl) (by kernel_rfl) (fun _ _ _ h => h) hH (by rfl) ?hyv ?onw
    case hyv =>
      intro wz hSw
      obtain ⟨z0, z1⟩ := hSw
      go_simp
      try rfl
    case onw =>
      try simp only [Act.put, List.setIfInBounds_toArray, List.set_cons_zero, List.set_cons_succ]
      refine' wpAnyL_take (i := 2) (oi := _) (v := _) rfl (by kernel_rfl) (by kernel_rfl) (by kernel_rfl) (by kernel_rfl) (fun _ _ _ h => h) hH (by rfl) ?hyv ?onw
      case hyv =>
        intro wz hSw
        obtain ⟨z0, z1⟩ := hSw
        go_simp
        try rfl
      case onw =>
        try simp only [Act.put, List.setIfInBounds_toArray, List.set_cons_zero, List.set_cons_succ]
        refine' wpAnyL_take (i := 3) (oi := _) (v := _) rfl (by kernel_rfl) (by kernel_rfl) (by kernel_rfl) (by kernel_rfl) (fun _ _ _ h => h) hH (by rfl) ?hyv ?onw
        case hyv =>
          intro wz hSw
          obtain ⟨z0, z1⟩ := hSw
          go_simp
          try rfl
        case onw =>
          try simp only [Act.put, List.setIfInBounds_toArray, List.set_cons_zero, List.set_cons_succ]
          refine' wpAnyL_take (i := 4) (oi := _) (v := _) rfl (by kernel_rfl) (by kernel_rfl) (by kernel_rfl) (by kernel_rfl) (fun _ _ _ h => h) hH (by rfl) ?hyv ?onw
          case hyv =>
            intro wz hSw
            obtain ⟨z0, z1⟩ := hSw
            go_simp
            try rfl
          case onw =>
            try simp only [Act.put, List.setIfInBounds_toArray, List.set_cons_zero, List.set_cons_succ]
            refine' wpAnyL_take (i := 5) (oi := _) (v := _) rfl (by kernel_rfl) (by kernel_rfl) (by kernel_rfl) (by kernel_rfl) (fun _ _ _ h => h) hH (by rfl) ?hyv ?onw
            case hyv =>
              intro wz hSw
              obtain ⟨z0, z1⟩ := hSw
              go_simp
              try rfl
            case onw =>
              try simp only [Act.put, List.setIfInBounds_toArray, List.set_cons_zero, List.set_cons_succ]
              refine' wpAnyL_take (i := 6) (oi := _) (v := _) rfl (by kernel_rfl) (by kernel_rfl) (by kernel_rfl) (by kernel_rfl) (fun _ _ _ h => h) hH (by rfl) ?hyv ?onw
              case hyv =>
                intro wz hSw
                obtain ⟨z0, z1⟩ := hSw
                go_simp
                try rfl
              case onw =>
                try simp only [Act.put, List.setIfInBounds_toArray, List.set_cons_zero, List.set_cons_succ]
                refine wpAnyL_one (i := 7) (o := _) rfl (by kernel_rfl) (by rfl) (fun K hK => ?_)
                go_simp
                refine hc.mono ?_
                rintro e w1 ⟨rfl, b1⟩
                have hH1 := hS w1 (hD.under b1)
                have K1 := (b1.block _ (lt_of KD)).trans KD
                refine hK.out _ _ (fun _ => hH1) ?_
                clear hK K
                try simp only [Act.put, List.setIfInBounds_toArray, List.set_cons_zero, List.set_cons_succ]
                refine wpAnyL_one (i := 8) (o := _) rfl (by kernel_rfl) (by rfl) (fun K hK => ?_)
                have f0 := free_of K1 0
                have f1 := free_of K1 1
                have d0 := cell_of K1 0
                have d1 := cell_of K1 1
                simp at d0 d1
                go_simp
                refine hK.out _ _ (fun _ => ?_) ?_
                · have bb : pb ≠ w.heap.size := by omega
                  have bl : lb ≠ w.heap.size := by
                    obtain ⟨mv, k⟩ := h.look
                    have := lt_of k
                    omega
                  simpa [World.cell?_setCell_other, bb, bl, bb.symm, bl.symm] using hH1
                clear hK K
                try simp only [Act.put, List.setIfInBounds_toArray, List.set_cons_zero, List.set_cons_succ]
                refine wpAnyL_done (by kernel_rfl) ?_ _
                go_wp2
                exact bodyPost_ret (v := .agg #[.int .i64 16, .int .i64 (-1)]) (by simp [results, Tryd.results33, go_sem, d0, d1]) rfl ⟨rfl, ((bD.trans (b1.mono bD.size)).setCell (by simp) _).setCell (by simp) _⟩
end Go.Proofs.YtfhjejmadhcmnaaDoor
