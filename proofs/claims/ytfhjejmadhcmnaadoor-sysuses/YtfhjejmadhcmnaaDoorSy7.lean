/-
  DERIVED. THE WALK of sys.Check at a system without variables whose one Out is 0.
-/
import Derived.Test.YtfhjejmadhcmnaaDoorSy6
namespace Go.Proofs.YtfhjejmadhcmnaaDoor
open Go.Shelf Go.RowKit Go.Lib Go.IntWalk
set_option linter.unusedVariables false
set_option linter.unusedSimpArgs false
set_option maxRecDepth 100000

set_option maxHeartbeats 2000000 in
theorem hasTooMany_any (g : Nat) (w : World) : Calls Tryd.prog 24 #[.agg #[.slice none 0 0, .slice none 0 0, .slice (some ⟨g, 0, none⟩) 1 1, .slice none 0 0]] w fun e w' => e = .returned (.bool false) ∧ Below w.heap.size w w' := by
  have bA : Below w.heap.size w (w.alloc (.cells #[.slice none 0 0, .slice none 0 0, .slice (some ⟨g, 0, none⟩) 1 1, .slice none 0 0] 43 (0, 0))) := (Below.refl _ _).alloc (Nat.le_refl _) _
  have hmx : ∀ V : World, (Builtin.max_ #[3, 3, 3] 3 #[.int .i64 0, .int .i64 0, .int .i64 1]).run Tryd.prog V = .ok (.int .i64 1) V := fun V => by kernel_rfl
  go_enter Tryd.func24, Tryd.ntmps24
  go_wp2
  go_ret
  exact ⟨rfl, bA⟩

theorem Tryd.info4c : (Tryd.prog.info? 4).map (fun i => (i.zero, i.size, i.bytes)) = some (some (.bool false), 1, 1) := by kernel_rfl

set_option maxHeartbeats 8000000 in
theorem check_begun {w : World} {g : Nat} (hg : w.heap[g]? = some (.cells #[.int .i64 0] 3 (0, 0))) : Calls Tryd.prog 14 #[.agg #[.slice none 0 0, .slice none 0 0, .slice (some ⟨g, 0, none⟩) 1 1, .slice none 0 0]] w fun e w' => e = .returned (.agg #[.int .i64 16, .int .i64 (-1)]) ∧ Below w.heap.size w w' := by
  obtain ⟨W, hW⟩ : ∃ W, W = (w.alloc (.cells #[.slice none 0 0, .slice none 0 0, .slice (some ⟨g, 0, none⟩) 1 1, .slice none 0 0] 43 (0, 0))).alloc (.cells #[.int .i64 0, .int .i64 0] 38 (0, 0)) := ⟨_, rfl⟩
  have bA : Below w.heap.size w W := by rw [hW]; exact ((Below.refl _ _).alloc (Nat.le_refl _) _).alloc (by simp) _
  have K1 : W.heap[w.heap.size]? = some (.cells #[.slice none 0 0, .slice none 0 0, .slice (some ⟨g, 0, none⟩) 1 1, .slice none 0 0] 43 (0, 0)) := by
    rw [hW]
    exact (Below.heap_alloc _ _ _ (by simp)).trans (heap_new w _)
  have K2 : W.heap[w.heap.size + 1]? = some (.cells #[.int .i64 0, .int .i64 0] 38 (0, 0)) := by
    rw [hW]
    have := heap_new (w.alloc (.cells #[.slice none 0 0, .slice none 0 0, .slice (some ⟨g, 0, none⟩) 1 1, .slice none 0 0] 43 (0, 0))) (.cells #[.int .i64 0, .int .i64 0] 38 (0, 0))
    simpa using this
  have KG := (bA.block _ (lt_of hg)).trans hg
  have hgl := lt_of hg
  have hmany := hasTooMany_any g W
  obtain ⟨i0, hi, hz0, hz1, hz2⟩ := info_parts Tryd.info4c
  obtain ⟨M, hM⟩ : ∃ M, M = madeCells (Value.bool false).cells (0 * i0.size) := ⟨_, rfl⟩
  have hmk : ∀ V : World, (Instr.makeSlice 53 (.int .i64 0) (.int .i64 0)).run Tryd.prog V = .ok (.slice (some ⟨V.heap.size, 0, none⟩) 0 0) (V.alloc (.cells M 4)) := fun V => by
    have h := run_make (P := Tryd.prog) V 53 4 i0 (.bool false) Tryd.underlying53 hi hz0 .i64 .i64 0 0 (by omega) (by omega) (by rw [hz2]; omega) (by omega)
    simpa [hM] using h
  clear hM hi hz0 hz1 hz2
  go_enter Tryd.func14, Tryd.ntmps14
  go_upto_region 1 with fail
  rw [← hW]
  clear hW hg
  have c0 := cell_of K1 0
  have c1 := cell_of K1 1
  have c2 := cell_of K1 2
  have c3 := cell_of K1 3
  simp at c0 c1 c2 c3
  go_wp2_with fail
  refine hmany.mono ?_
  rintro e w1 ⟨rfl, b1⟩
  clear hmany c0 c1 c2 c3
  have B1 := bA.trans (b1.mono bA.size)
  have K1 := (b1.block _ (lt_of K1)).trans K1
  have K2 := (b1.block _ (lt_of K2)).trans K2
  have KG := (b1.block _ (lt_of KG)).trans KG
  go_upto_region 3 with fail
  go_cut [3] (fun v3 wd => ∃ pb lb : Nat, v3 = .pointer (some ⟨pb, 0, none⟩) ∧ LKP wd pb lb g ∧ wd.heap[w.heap.size + 1]? = some (.cells #[.int .i64 0, .int .i64 0] 38 (0, 0)) ∧ Below w.heap.size w wd)
  case first =>
    refine wp_region_late (fun w' => w'.heap[w.heap.size]? = some (.cells #[.slice none 0 0, .slice none 0 0, .slice (some ⟨g, 0, none⟩) 1 1, .slice none 0 0] 43 (0, 0)) ∧ w'.heap[w.heap.size + 1]? = some (.cells #[.int .i64 0, .int .i64 0] 38 (0, 0)) ∧ w'.heap[g]? = some (.cells #[.int .i64 0] 3 (0, 0)) ∧ Below w.heap.size w w') (fun _ => false) (by kernel_rfl) ?_
    have hH : w1.drew.heap[w.heap.size]? = some (.cells #[.slice none 0 0, .slice none 0 0, .slice (some ⟨g, 0, none⟩) 1 1, .slice none 0 0] 43 (0, 0)) ∧ w1.drew.heap[w.heap.size + 1]? = some (.cells #[.int .i64 0, .int .i64 0] 38 (0, 0)) ∧ w1.drew.heap[g]? = some (.cells #[.int .i64 0] 3 (0, 0)) ∧ Below w.heap.size w w1.drew := ⟨K1, K2, KG, B1.drew⟩
    have hS : ∀ V o, (V.heap[w.heap.size]? = some (.cells #[.slice none 0 0, .slice none 0 0, .slice (some ⟨g, 0, none⟩) 1 1, .slice none 0 0] 43 (0, 0)) ∧ V.heap[w.heap.size + 1]? = some (.cells #[.int .i64 0, .int .i64 0] 38 (0, 0)) ∧ V.heap[g]? = some (.cells #[.int .i64 0] 3 (0, 0)) ∧ Below w.heap.size w V) → ((V.alloc o).heap[w.heap.size]? = some (.cells #[.slice none 0 0, .slice none 0 0, .slice (some ⟨g, 0, none⟩) 1 1, .slice none 0 0] 43 (0, 0)) ∧ (V.alloc o).heap[w.heap.size + 1]? = some (.cells #[.int .i64 0, .int .i64 0] 38 (0, 0)) ∧ (V.alloc o).heap[g]? = some (.cells #[.int .i64 0] 3 (0, 0)) ∧ Below w.heap.size w (V.alloc o)) := fun V o h => by
      obtain ⟨h1, h2, h3, h4⟩ := h
      exact ⟨(Below.heap_alloc _ _ _ (lt_of h1)).trans h1, (Below.heap_alloc _ _ _ (lt_of h2)).trans h2, (Below.heap_alloc _ _ _ (lt_of h3)).trans h3, h4.alloc h4.size _⟩
    have B1s : w.heap.size + 1 < w1.drew.heap.size := lt_of K2
    clear K1 K2 KG B1
    generalize w1.drew = wd at hH B1s ⊢
    refine' wpAnyL_take (i := 0) (oi := _) (v := _) rfl (by kernel_rfl) (by kernel_rfl) (by kernel_rfl) (by kernel_rfl) (fun _ _ _ h => h) hH (by rfl) ?hyv ?onw
    case hyv =>
      intro wz hSw
      obtain ⟨z1, z2, z3, _⟩ := hSw; have y0 := cell_of z1 0; have y1 := cell_of z1 1; have y2 := cell_of z1 2; have y3 := cell_of z1 3; simp at y0 y1 y2 y3
      go_simp
      try rfl
    case onw =>
      try simp only [Act.put, List.setIfInBounds_toArray, List.set_cons_zero, List.set_cons_succ]
      refine' wpAnyL_take (i := 1) (oi := _) (v := _) rfl (by kernel_rfl) (by kernel_rfl) (by kernel_rfl) (by kernel_rfl) (fun _ _ _ h => h) hH (by rfl) ?hyv ?onw
      case hyv =>
        intro wz hSw
        obtain ⟨z1, z2, z3, _⟩ := hSw; have y0 := cell_of z1 0; have y1 := cell_of z1 1; have y2 := cell_of z1 2; have y3 := cell_of z1 3; simp at y0 y1 y2 y3
        go_simp
        try rfl
      case onw =>
        try simp only [Act.put, List.setIfInBounds_toArray, List.set_cons_zero, List.set_cons_succ]
        refine' wpAnyL_take (i := 2) (oi := _) (v := _) rfl (by kernel_rfl) (by kernel_rfl) (by kernel_rfl) (by kernel_rfl) (fun _ _ _ h => h) hH (by rfl) ?hyv ?onw
        case hyv =>
          intro wz hSw
          obtain ⟨z1, z2, z3, _⟩ := hSw; have y0 := cell_of z1 0; have y1 := cell_of z1 1; have y2 := cell_of z1 2; have y3 := cell_of z1 3; simp at y0 y1 y2 y3
          go_simp
          try rfl
        case onw =>
          try simp only [Act.put, List.setIfInBounds_toArray, List.set_cons_zero, List.set_cons_succ]
          refine' wpAnyL_take (i := 3) (oi := _) (v := _) rfl (by kernel_rfl) (by kernel_rfl) (by kernel_rfl) (by kernel_rfl) (fun _ _ _ h => h) hH (by rfl) ?hyv ?onw
          case hyv =>
            intro wz hSw
            obtain ⟨z1, z2, z3, _⟩ := hSw; have y0 := cell_of z1 0; have y1 := cell_of z1 1; have y2 := cell_of z1 2; have y3 := cell_of z1 3; simp at y0 y1 y2 y3
            go_simp
            try rfl
          case onw =>
            try simp only [Act.put, List.setIfInBounds_toArray, List.set_cons_zero, List.set_cons_succ]
            refine wpAnyL_two (i := 4) (j := 7) (oi := _) (oj := _) rfl rfl (by kernel_rfl) (by rfl) (by rfl) (fun K hK => ?_) (fun K hK => ?_)
            · skip
              go_simp
              have hHa := hS wd (.cells M 4 (0, 0)) hH
              have km := heap_new wd (.cells M 4 (0, 0))
              have ym : wd.heap.size < (wd.alloc (.cells M 4 (0, 0))).heap.size := by simp
              have bm : Below wd.heap.size wd (wd.alloc (.cells M 4 (0, 0))) := (Below.refl _ _).alloc (Nat.le_refl _) _
              generalize wd.alloc (.cells M 4 (0, 0)) = wa at hHa km ym bm hK ⊢
              refine hK.out _ _ (fun _ => hHa) ?_
              clear hK K
              try simp only [Act.put, List.setIfInBounds_toArray, List.set_cons_zero, List.set_cons_succ]
              refine' wpAnyL_take (i := 5) (oi := _) (v := _) rfl (by kernel_rfl) (by kernel_rfl) (by kernel_rfl) (by kernel_rfl) (fun _ _ _ h => h) hHa (by rfl) ?hyv ?onw
              case hyv =>
                intro wz hSw
                go_simp
                try rfl
              case onw =>
                try simp only [Act.put, List.setIfInBounds_toArray, List.set_cons_zero, List.set_cons_succ]
                refine wpAnyL_two (i := 6) (j := 7) (oi := _) (oj := _) rfl rfl (by kernel_rfl) (by rfl) (by rfl) (fun K hK => ?_) (fun K hK => ?_)
                · skip
                  go_simp
                  have hHb := hS wa (.cells #[.slice none 0 0, .slice none 0 0, .slice (some ⟨g, 0, none⟩) 1 1, .slice none 0 0, .slice (some ⟨wd.heap.size, 0, none⟩) 0 0] 55 (0, 0)) hHa
                  have kl := heap_new wa (.cells #[.slice none 0 0, .slice none 0 0, .slice (some ⟨g, 0, none⟩) 1 1, .slice none 0 0, .slice (some ⟨wd.heap.size, 0, none⟩) 0 0] 55 (0, 0))
                  have yl : wa.heap.size < (wa.alloc (.cells #[.slice none 0 0, .slice none 0 0, .slice (some ⟨g, 0, none⟩) 1 1, .slice none 0 0, .slice (some ⟨wd.heap.size, 0, none⟩) 0 0] 55 (0, 0))).heap.size := by simp
                  have bl : Below wa.heap.size wa (wa.alloc (.cells #[.slice none 0 0, .slice none 0 0, .slice (some ⟨g, 0, none⟩) 1 1, .slice none 0 0, .slice (some ⟨wd.heap.size, 0, none⟩) 0 0] 55 (0, 0))) := (Below.refl _ _).alloc (Nat.le_refl _) _
                  generalize wa.alloc (.cells #[.slice none 0 0, .slice none 0 0, .slice (some ⟨g, 0, none⟩) 1 1, .slice none 0 0, .slice (some ⟨wd.heap.size, 0, none⟩) 0 0] 55 (0, 0)) = wb at hHb kl yl bl hK ⊢
                  refine hK.out _ _ (fun _ => hHb) ?_
                  clear hK K
                  try simp only [Act.put, List.setIfInBounds_toArray, List.set_cons_zero, List.set_cons_succ]
                  refine wpAnyL_one (i := 7) (o := _) rfl (by kernel_rfl) (by rfl) (fun K hK => ?_)
                  go_simp
                  have hHc := hS wb (.cells #[.pointer none] 52 (0, 0)) hHb
                  have kp := heap_new wb (.cells #[.pointer none] 52 (0, 0))
                  have yp : wb.heap.size < (wb.alloc (.cells #[.pointer none] 52 (0, 0))).heap.size := by simp
                  have bp : Below wb.heap.size wb (wb.alloc (.cells #[.pointer none] 52 (0, 0))) := (Below.refl _ _).alloc (Nat.le_refl _) _
                  generalize wb.alloc (.cells #[.pointer none] 52 (0, 0)) = wc at hHc kp yp bp hK ⊢
                  refine hK.out _ _ (fun _ => hHc) ?_
                  clear hK K
                  try simp only [Act.put, List.setIfInBounds_toArray, List.set_cons_zero, List.set_cons_succ]
                  have kl2 := (bp.block _ yl).trans kl
                  refine wpAnyL_one (i := 8) (o := _) rfl (by kernel_rfl) (by rfl) (fun K hK => ?_)
                  have f0 := free_of kp 0
                  have d0 := cell_of kp 0
                  simp at d0
                  go_simp
                  have kS := set_in kp 0 (.pointer (some ⟨wa.heap.size, 0, none⟩))
                  have hne : wa.heap.size ≠ wb.heap.size := by omega
                  have kL := (Below.heap_setCell wc ⟨wb.heap.size, 0, none⟩ (.pointer (some ⟨wa.heap.size, 0, none⟩)) wa.heap.size hne).trans kl2
                  obtain ⟨g1, g2, g3, g4⟩ := hHc
                  have l2 := lt_of g2
                  have l1 := B1s
                  have x1 := (Below.heap_setCell wc ⟨wb.heap.size, 0, none⟩ (.pointer (some ⟨wa.heap.size, 0, none⟩)) w.heap.size (by show w.heap.size ≠ wb.heap.size; omega)).trans g1
                  have x2 := (Below.heap_setCell wc ⟨wb.heap.size, 0, none⟩ (.pointer (some ⟨wa.heap.size, 0, none⟩)) (w.heap.size + 1) (by show w.heap.size + 1 ≠ wb.heap.size; omega)).trans g2
                  have x3 := (Below.heap_setCell wc ⟨wb.heap.size, 0, none⟩ (.pointer (some ⟨wa.heap.size, 0, none⟩)) g (by show g ≠ wb.heap.size; omega)).trans g3
                  have x4 := g4.setCell (p := ⟨wb.heap.size, 0, none⟩) (by show w.heap.size ≤ wb.heap.size; omega) (.pointer (some ⟨wa.heap.size, 0, none⟩))
                  refine hK.out _ _ (fun _ => ⟨x1, x2, x3, x4⟩) ?_
                  clear hK K
                  try simp only [Act.put, List.setIfInBounds_toArray, List.set_cons_zero, List.set_cons_succ]
                  refine wpAnyL_done (by kernel_rfl) ?_ _
                  go_wp2_with fail
                  go_meet
                  case rel => exact ⟨wb.heap.size, wa.heap.size, rfl, ⟨⟨⟨_, kL⟩, x3⟩, by simpa using kS⟩, x2, x4⟩
                · skip
                  go_simp
                  have hHb := hS wa (.cells #[.pointer none] 52 (0, 0)) hHa
                  have kp := heap_new wa (.cells #[.pointer none] 52 (0, 0))
                  have yp : wa.heap.size < (wa.alloc (.cells #[.pointer none] 52 (0, 0))).heap.size := by simp
                  have bp : Below wa.heap.size wa (wa.alloc (.cells #[.pointer none] 52 (0, 0))) := (Below.refl _ _).alloc (Nat.le_refl _) _
                  generalize wa.alloc (.cells #[.pointer none] 52 (0, 0)) = wb at hHb kp yp bp hK ⊢
                  refine hK.out _ _ (fun _ => hHb) ?_
                  clear hK K
                  try simp only [Act.put, List.setIfInBounds_toArray, List.set_cons_zero, List.set_cons_succ]
                  refine wpAnyL_one (i := 6) (o := _) rfl (by kernel_rfl) (by rfl) (fun K hK => ?_)
                  go_simp
                  have hHc := hS wb (.cells #[.slice none 0 0, .slice none 0 0, .slice (some ⟨g, 0, none⟩) 1 1, .slice none 0 0, .slice (some ⟨wd.heap.size, 0, none⟩) 0 0] 55 (0, 0)) hHb
                  have kl := heap_new wb (.cells #[.slice none 0 0, .slice none 0 0, .slice (some ⟨g, 0, none⟩) 1 1, .slice none 0 0, .slice (some ⟨wd.heap.size, 0, none⟩) 0 0] 55 (0, 0))
                  have yl : wb.heap.size < (wb.alloc (.cells #[.slice none 0 0, .slice none 0 0, .slice (some ⟨g, 0, none⟩) 1 1, .slice none 0 0, .slice (some ⟨wd.heap.size, 0, none⟩) 0 0] 55 (0, 0))).heap.size := by simp
                  have bl : Below wb.heap.size wb (wb.alloc (.cells #[.slice none 0 0, .slice none 0 0, .slice (some ⟨g, 0, none⟩) 1 1, .slice none 0 0, .slice (some ⟨wd.heap.size, 0, none⟩) 0 0] 55 (0, 0))) := (Below.refl _ _).alloc (Nat.le_refl _) _
                  generalize wb.alloc (.cells #[.slice none 0 0, .slice none 0 0, .slice (some ⟨g, 0, none⟩) 1 1, .slice none 0 0, .slice (some ⟨wd.heap.size, 0, none⟩) 0 0] 55 (0, 0)) = wc at hHc kl yl bl hK ⊢
                  refine hK.out _ _ (fun _ => hHc) ?_
                  clear hK K
                  try simp only [Act.put, List.setIfInBounds_toArray, List.set_cons_zero, List.set_cons_succ]
                  have kp2 := (bl.block _ yp).trans kp
                  refine wpAnyL_one (i := 8) (o := _) rfl (by kernel_rfl) (by rfl) (fun K hK => ?_)
                  have f0 := free_of kp2 0
                  have d0 := cell_of kp2 0
                  simp at d0
                  go_simp
                  have kS := set_in kp2 0 (.pointer (some ⟨wb.heap.size, 0, none⟩))
                  have hne : wb.heap.size ≠ wa.heap.size := by omega
                  have kL := (Below.heap_setCell wc ⟨wa.heap.size, 0, none⟩ (.pointer (some ⟨wb.heap.size, 0, none⟩)) wb.heap.size hne).trans kl
                  obtain ⟨g1, g2, g3, g4⟩ := hHc
                  have l2 := lt_of g2
                  have l1 := B1s
                  have x1 := (Below.heap_setCell wc ⟨wa.heap.size, 0, none⟩ (.pointer (some ⟨wb.heap.size, 0, none⟩)) w.heap.size (by show w.heap.size ≠ wa.heap.size; omega)).trans g1
                  have x2 := (Below.heap_setCell wc ⟨wa.heap.size, 0, none⟩ (.pointer (some ⟨wb.heap.size, 0, none⟩)) (w.heap.size + 1) (by show w.heap.size + 1 ≠ wa.heap.size; omega)).trans g2
                  have x3 := (Below.heap_setCell wc ⟨wa.heap.size, 0, none⟩ (.pointer (some ⟨wb.heap.size, 0, none⟩)) g (by show g ≠ wa.heap.size; omega)).trans g3
                  have x4 := g4.setCell (p := ⟨wa.heap.size, 0, none⟩) (by show w.heap.size ≤ wa.heap.size; omega) (.pointer (some ⟨wb.heap.size, 0, none⟩))
                  refine hK.out _ _ (fun _ => ⟨x1, x2, x3, x4⟩) ?_
                  clear hK K
                  try simp only [Act.put, List.setIfInBounds_toArray, List.set_cons_zero, List.set_cons_succ]
                  refine wpAnyL_done (by kernel_rfl) ?_ _
                  go_wp2_with fail
                  go_meet
                  case rel => exact ⟨wa.heap.size, wb.heap.size, rfl, ⟨⟨⟨_, kL⟩, x3⟩, by simpa using kS⟩, x2, x4⟩
            · skip
              go_simp
              have hHa := hS wd (.cells #[.pointer none] 52 (0, 0)) hH
              have kp := heap_new wd (.cells #[.pointer none] 52 (0, 0))
              have yp : wd.heap.size < (wd.alloc (.cells #[.pointer none] 52 (0, 0))).heap.size := by simp
              have bp : Below wd.heap.size wd (wd.alloc (.cells #[.pointer none] 52 (0, 0))) := (Below.refl _ _).alloc (Nat.le_refl _) _
              generalize wd.alloc (.cells #[.pointer none] 52 (0, 0)) = wa at hHa kp yp bp hK ⊢
              refine hK.out _ _ (fun _ => hHa) ?_
              clear hK K
              try simp only [Act.put, List.setIfInBounds_toArray, List.set_cons_zero, List.set_cons_succ]
              refine wpAnyL_one (i := 4) (o := _) rfl (by kernel_rfl) (by rfl) (fun K hK => ?_)
              go_simp
              have hHb := hS wa (.cells M 4 (0, 0)) hHa
              have km := heap_new wa (.cells M 4 (0, 0))
              have ym : wa.heap.size < (wa.alloc (.cells M 4 (0, 0))).heap.size := by simp
              have bm : Below wa.heap.size wa (wa.alloc (.cells M 4 (0, 0))) := (Below.refl _ _).alloc (Nat.le_refl _) _
              generalize wa.alloc (.cells M 4 (0, 0)) = wb at hHb km ym bm hK ⊢
              refine hK.out _ _ (fun _ => hHb) ?_
              clear hK K
              try simp only [Act.put, List.setIfInBounds_toArray, List.set_cons_zero, List.set_cons_succ]
              refine' wpAnyL_take (i := 5) (oi := _) (v := _) rfl (by kernel_rfl) (by kernel_rfl) (by kernel_rfl) (by kernel_rfl) (fun _ _ _ h => h) hHb (by rfl) ?hyv ?onw
              case hyv =>
                intro wz hSw
                go_simp
                try rfl
              case onw =>
                try simp only [Act.put, List.setIfInBounds_toArray, List.set_cons_zero, List.set_cons_succ]
                refine wpAnyL_one (i := 6) (o := _) rfl (by kernel_rfl) (by rfl) (fun K hK => ?_)
                go_simp
                have hHc := hS wb (.cells #[.slice none 0 0, .slice none 0 0, .slice (some ⟨g, 0, none⟩) 1 1, .slice none 0 0, .slice (some ⟨wa.heap.size, 0, none⟩) 0 0] 55 (0, 0)) hHb
                have kl := heap_new wb (.cells #[.slice none 0 0, .slice none 0 0, .slice (some ⟨g, 0, none⟩) 1 1, .slice none 0 0, .slice (some ⟨wa.heap.size, 0, none⟩) 0 0] 55 (0, 0))
                have yl : wb.heap.size < (wb.alloc (.cells #[.slice none 0 0, .slice none 0 0, .slice (some ⟨g, 0, none⟩) 1 1, .slice none 0 0, .slice (some ⟨wa.heap.size, 0, none⟩) 0 0] 55 (0, 0))).heap.size := by simp
                have bl : Below wb.heap.size wb (wb.alloc (.cells #[.slice none 0 0, .slice none 0 0, .slice (some ⟨g, 0, none⟩) 1 1, .slice none 0 0, .slice (some ⟨wa.heap.size, 0, none⟩) 0 0] 55 (0, 0))) := (Below.refl _ _).alloc (Nat.le_refl _) _
                generalize wb.alloc (.cells #[.slice none 0 0, .slice none 0 0, .slice (some ⟨g, 0, none⟩) 1 1, .slice none 0 0, .slice (some ⟨wa.heap.size, 0, none⟩) 0 0] 55 (0, 0)) = wc at hHc kl yl bl hK ⊢
                refine hK.out _ _ (fun _ => hHc) ?_
                clear hK K
                try simp only [Act.put, List.setIfInBounds_toArray, List.set_cons_zero, List.set_cons_succ]
                have kp2 := (bl.block _ (Nat.lt_of_lt_of_le yp bm.size)).trans ((bm.block _ yp).trans kp)
                refine wpAnyL_one (i := 8) (o := _) rfl (by kernel_rfl) (by rfl) (fun K hK => ?_)
                have f0 := free_of kp2 0
                have d0 := cell_of kp2 0
                simp at d0
                go_simp
                have kS := set_in kp2 0 (.pointer (some ⟨wb.heap.size, 0, none⟩))
                have hne : wb.heap.size ≠ wd.heap.size := by omega
                have kL := (Below.heap_setCell wc ⟨wd.heap.size, 0, none⟩ (.pointer (some ⟨wb.heap.size, 0, none⟩)) wb.heap.size hne).trans kl
                obtain ⟨g1, g2, g3, g4⟩ := hHc
                have l2 := lt_of g2
                have l1 := B1s
                have x1 := (Below.heap_setCell wc ⟨wd.heap.size, 0, none⟩ (.pointer (some ⟨wb.heap.size, 0, none⟩)) w.heap.size (by show w.heap.size ≠ wd.heap.size; omega)).trans g1
                have x2 := (Below.heap_setCell wc ⟨wd.heap.size, 0, none⟩ (.pointer (some ⟨wb.heap.size, 0, none⟩)) (w.heap.size + 1) (by show w.heap.size + 1 ≠ wd.heap.size; omega)).trans g2
                have x3 := (Below.heap_setCell wc ⟨wd.heap.size, 0, none⟩ (.pointer (some ⟨wb.heap.size, 0, none⟩)) g (by show g ≠ wd.heap.size; omega)).trans g3
                have x4 := g4.setCell (p := ⟨wd.heap.size, 0, none⟩) (by show w.heap.size ≤ wd.heap.size; omega) (.pointer (some ⟨wb.heap.size, 0, none⟩))
                refine hK.out _ _ (fun _ => ⟨x1, x2, x3, x4⟩) ?_
                clear hK K
                try simp only [Act.put, List.setIfInBounds_toArray, List.set_cons_zero, List.set_cons_succ]
                refine wpAnyL_done (by kernel_rfl) ?_ _
                go_wp2_with fail
                go_meet
                case rel => exact ⟨wd.heap.size, wb.heap.size, rfl, ⟨⟨⟨_, kL⟩, x3⟩, by simpa using kS⟩, x2, x4⟩
  case rest =>
    clear K1 K2 KG B1 b1 bA hmk
    obtain ⟨pb, lb, rfl, hL, K2, bD⟩ := hcut
    have yD := lt_of K2
    go_upto_region 5 with fail
    obtain ⟨w3, hw3⟩ : ∃ w3, w3 = wc.alloc (.cells #[.func (.func 25) #[] #[.pointer (some ⟨pb, 0, none⟩)], .func (.func 29) #[] #[.pointer (some ⟨pb, 0, none⟩)], .func (.func 33) #[] #[.pointer (some ⟨pb, 0, none⟩)], .func (.func 35) #[] #[.pointer (some ⟨pb, 0, none⟩)], .func (.func 39) #[] #[.pointer (some ⟨pb, 0, none⟩)], .func (.func 41) #[] #[.pointer (some ⟨pb, 0, none⟩)]] 61 (0, 0)) := ⟨_, rfl⟩
    have b3 : Below wc.heap.size wc w3 := by rw [hw3]; exact (Below.refl _ _).alloc (Nat.le_refl _) _
    have KF : w3.heap[wc.heap.size]? = some (.cells #[.func (.func 25) #[] #[.pointer (some ⟨pb, 0, none⟩)], .func (.func 29) #[] #[.pointer (some ⟨pb, 0, none⟩)], .func (.func 33) #[] #[.pointer (some ⟨pb, 0, none⟩)], .func (.func 35) #[] #[.pointer (some ⟨pb, 0, none⟩)], .func (.func 39) #[] #[.pointer (some ⟨pb, 0, none⟩)], .func (.func 41) #[] #[.pointer (some ⟨pb, 0, none⟩)]] 61 (0, 0)) := by rw [hw3]; exact heap_new _ _
    rw [← hw3]
    clear hw3
    have hL3 := hL.under b3
    have K3 := (b3.block _ yD).trans K2
    have bE := bD.trans (b3.mono bD.size)
    have hcf : w.heap.size + 1 < wc.heap.size := yD
    generalize wc.heap.size = fb at KF hcf ⊢
    clear hL K2 bD b3 yD
    go_wp2_with fail
    go_loopg [6, 7, 27] 3 (fun gh _ _ s27 wr => ∃ i : Nat, s27 = .int .i64 (i : Int) ∧ i ≤ 2 ∧ 3 ≤ gh + i ∧ wr.heap[fb]? = some (.cells #[.func (.func 25) #[] #[.pointer (some ⟨pb, 0, none⟩)], .func (.func 29) #[] #[.pointer (some ⟨pb, 0, none⟩)], .func (.func 33) #[] #[.pointer (some ⟨pb, 0, none⟩)], .func (.func 35) #[] #[.pointer (some ⟨pb, 0, none⟩)], .func (.func 39) #[] #[.pointer (some ⟨pb, 0, none⟩)], .func (.func 41) #[] #[.pointer (some ⟨pb, 0, none⟩)]] 61 (0, 0)) ∧ LKP wr pb lb g ∧ wr.heap[w.heap.size + 1]? = some (.cells #[.int .i64 0, .int .i64 0] 38 (0, 0)) ∧ Below w.heap.size w wr)
    case atStart => exact ⟨0, rfl, by omega, by omega, KF, hL3, K3, bE⟩
    case round =>
      clear KF hL3 K3 bE
      obtain ⟨i, rfl, hi2, hgi, KF, hL, K2, bR⟩ := hrel
      have yF := lt_of KF
      have e25 : ∀ args w, (callFunc 25 args).run Tryd.prog w = .ok (.enter 25 args) w := enters_of Tryd.func25 (by kernel_rfl) rfl
      have e29 : ∀ args w, (callFunc 29 args).run Tryd.prog w = .ok (.enter 29 args) w := enters_of Tryd.func29 (by kernel_rfl) rfl
      have e33 : ∀ args w, (callFunc 33 args).run Tryd.prog w = .ok (.enter 33 args) w := enters_of Tryd.func33 (by kernel_rfl) rfl
      have hc1 := check1_any hL
      have hc2 := check2_any hL
      have hc3 := check3_any hL
      rcases (by omega : i = 0 ∨ i = 1 ∨ i = 2) with rfl | rfl | rfl
      · have c0 := cell_of KF 0
        simp at c0
        go_wp2_with fail
        refine hc1.mono ?_
        rintro e w4 ⟨rfl, b4⟩
        obtain ⟨w5, hw5⟩ : ∃ w5, w5 = w4.alloc (.cells #[.int .i64 0, .int .i64 0] 38 (0, 0)) := ⟨_, rfl⟩
        have b5 : Below wr.heap.size wr w5 := by rw [hw5]; exact b4.alloc b4.size _
        go_wp2_with fail
        go_roundg (gk - 1)
        case measure => omega
        case rel => exact ⟨1, by go_num, by omega, by omega, by rw [← hw5]; exact (b5.block _ yF).trans KF, by rw [← hw5]; exact hL.under b5, by rw [← hw5]; exact (b5.block _ (lt_of K2)).trans K2, by rw [← hw5]; exact bR.trans (b5.mono bR.size)⟩
      · have c0 := cell_of KF 1
        simp at c0
        go_wp2_with fail
        refine hc2.mono ?_
        rintro e w4 ⟨rfl, b4⟩
        obtain ⟨w5, hw5⟩ : ∃ w5, w5 = w4.alloc (.cells #[.int .i64 0, .int .i64 0] 38 (0, 0)) := ⟨_, rfl⟩
        have b5 : Below wr.heap.size wr w5 := by rw [hw5]; exact b4.alloc b4.size _
        go_wp2_with fail
        go_roundg (gk - 1)
        case measure => omega
        case rel => exact ⟨2, by go_num, by omega, by omega, by rw [← hw5]; exact (b5.block _ yF).trans KF, by rw [← hw5]; exact hL.under b5, by rw [← hw5]; exact (b5.block _ (lt_of K2)).trans K2, by rw [← hw5]; exact bR.trans (b5.mono bR.size)⟩
      · have c0 := cell_of KF 2
        simp at c0
        go_wp2_with fail
        refine hc3.mono ?_
        rintro e w4 ⟨rfl, b4⟩
        have K4 := (b4.block _ (lt_of K2)).trans K2
        have y4 := lt_of K4
        have f0 := free_of K4 0
        have f1 := free_of K4 1
        have d0 := cell_of K4 0
        have d1 := cell_of K4 1
        simp at d0 d1
        have bS := bR.trans (b4.mono bR.size)
        go_wp2
        obtain ⟨w6, hw6⟩ : ∃ w6, w6 = ((w4.setCell ⟨w.heap.size + 1, 0, none⟩ (.int .i64 16)).setCell ⟨w.heap.size + 1, 1, none⟩ (.int .i64 (-1))).alloc (.cells #[.int .i64 16, .int .i64 (-1)] 38 (0, 0)) := ⟨_, rfl⟩
        rw [← hw6]
        have K6 : w6.heap[w.heap.size + 1]? = some (.cells #[.int .i64 16, .int .i64 (-1)] 38 (0, 0)) := by
          rw [hw6]
          refine (Below.heap_alloc _ _ _ (by simp [World.setCell]; omega)).trans ?_
          have := set_in (set_in K4 0 (.int .i64 16)) 1 (.int .i64 (-1))
          simpa using this
        have q0 := cell_of K6 0
        have q1 := cell_of K6 1
        simp at q0 q1
        have b6 : Below w.heap.size w w6 := by
          rw [hw6]
          exact ((bS.setCell (by simp) _).setCell (by simp) _).alloc (by simp [World.setCell]; omega) _
        exact bodyPost_ret (v := .agg #[.int .i64 16, .int .i64 (-1)]) (by simp [results, Tryd.results14, go_sem, q0, q1]) rfl ⟨rfl, b6⟩
end Go.Proofs.YtfhjejmadhcmnaaDoor
