/-
  DERIVED. THE WALK of the law of what a rule uses.
-/
import Derived.Test.YtfhjejmadhcmnaaDoorSy15
namespace Go.Proofs.YtfhjejmadhcmnaaDoor
open Go.Shelf Go.RowKit Go.Lib Go.IntWalk
set_option linter.unusedVariables false
set_option linter.unusedSimpArgs false
set_option maxRecDepth 100000

theorem HPu.wide {ok ok' : Nat → Prop} {w : World} {v : Value} {l : List Pu} (h : HPu ok w v l) (hk : ∀ i, ok i → i < w.heap.size → ok' i) : HPu ok' w v l := by
  obtain ⟨C, h3, h4⟩ := h
  exact ⟨C, h3.wide hk, h4⟩
set_option maxHeartbeats 16000000 in
theorem uses_walk {ok : Nat → Prop} {w : World} {va ve : Value} {A : List Int} {E : List Pu} (op k out n : Int) (hA : HInts ok w va A) (hE : HPu ok w ve E) :
    Calls Tryd.prog 3 #[.agg #[.int .i64 op, .int .i64 k, .int .i64 out, .int .i64 n, va, ve]] w fun e w' => e = .returned (.bool true) ∧ Below w.heap.size w w' := by
  obtain ⟨aA, cA, rfl, hA1, hA2, _⟩ := hA.at
  obtain ⟨aE, cE, rfl, hE1, hE2, _⟩ := hE.at
  unfold maxLen at hA2 hE2
  have HA := hide hA
  have HE := hide hE
  clear hA hE
  obtain ⟨W, hW⟩ : ∃ W, W = w.alloc (.cells #[.int .i64 op, .int .i64 k, .int .i64 out, .int .i64 n, .slice aA A.length cA, .slice aE E.length cE] 25 (0, 0)) := ⟨_, rfl⟩
  have bA : Below w.heap.size w W := by rw [hW]; exact (Below.refl _ _).alloc (Nat.le_refl _) _
  have KA : W.heap[w.heap.size]? = some (.cells #[.int .i64 op, .int .i64 k, .int .i64 out, .int .i64 n, .slice aA A.length cA, .slice aE E.length cE] 25 (0, 0)) := by rw [hW]; exact heap_new w _
  have h6 := begun_any W
  go_enter Tryd.func3, Tryd.ntmps3
  go_upto_region 1 with fail
  rw [← hW]
  clear hW
  go_wp2_with fail
  refine h6.mono ?_
  rintro e w1 ⟨rfl, b1⟩
  clear h6
  have K1 := (b1.block _ (lt_of KA)).trans KA
  have B1 := bA.trans (b1.mono bA.size)
  clear b1 bA KA
  have d0 := cell_of K1 0
  have d1 := cell_of K1 1
  have d2 := cell_of K1 2
  have d3 := cell_of K1 3
  have d4 := cell_of K1 4
  have d5 := cell_of K1 5
  simp at d0 d1 d2 d3 d4 d5
  by_cases hAl : A.length ≤ 500
  case neg =>
    have hx : (500 : Int) < (A.length : Int) := by omega
    go_wp2_with fail
    go_ret
    exact ⟨rfl, B1⟩
  by_cases hEl : E.length ≤ 500
  case neg =>
    have hx : ¬ (500 : Int) < (A.length : Int) := by omega
    have hy : (500 : Int) < (E.length : Int) := by omega
    go_wp2_with fail
    go_ret
    exact ⟨rfl, B1⟩
  have hx : ¬ (500 : Int) < (A.length : Int) := by omega
  have hy : ¬ (500 : Int) < (E.length : Int) := by omega
  go_upto_region 5 with fail
  clear hx hy
  go_upto_region 6 with fail
  obtain ⟨p, hp⟩ : ∃ p, p = w1.heap.size := ⟨_, rfl⟩
  obtain ⟨w2, hw2⟩ : ∃ w2, w2 = w1.alloc (.cells #[.int .i64 op, .int .i64 k, .int .i64 out, .int .i64 n, .slice aA A.length cA, .slice aE E.length cE] 25 (0, 0)) := ⟨_, rfl⟩
  have b2 : Below w1.heap.size w1 w2 := by rw [hw2]; exact (Below.refl _ _).alloc (Nat.le_refl _) _
  have P2 : w2.heap[p]? = some (.cells #[.int .i64 op, .int .i64 k, .int .i64 out, .int .i64 n, .slice aA A.length cA, .slice aE E.length cE] 25 (0, 0)) := by rw [hw2, hp]; exact heap_new w1 _
  have K2 := (b2.block _ (lt_of K1)).trans K1
  have hpw : w.heap.size < p := by rw [hp]; exact lt_of K1
  have B2 := B1.trans (b2.mono B1.size)
  rw [← hw2, ← hp]
  clear hw2 hp b2 K1 B1 d0 d1 d2 d3 d4 d5
  obtain ⟨v3, w3, r3, o3, b3, _⟩ := run_cat (ty := 22) (B := w2.heap.size) (w := w2) OwnL.nil (HA.out.under B2) (Nat.le_refl _) (by simp; omega)
  rw [List.nil_append] at o3
  obtain ⟨a3, c3, hv3, _, _⟩ := o3.form
  subst hv3
  have P3 := (b3.block _ (lt_of P2)).trans P2
  have K3 := (b3.block _ (lt_of K2)).trans K2
  have B3 := B2.trans (b3.mono B2.size)
  have z2 := lt_of P2
  have d4 := cell_of K2 4
  have e4 := cell_of P3 4
  have f4 := free_of P3 4
  simp at d4 e4
  go_upto_region 7 with (at_builtin; refine wpList_cat rfl _ _ rfl _ _ _ (by rfl) (by rfl) r3 ?_)
  clear d4 e4 f4 r3
  obtain ⟨w4, hw4⟩ : ∃ w4, w4 = w3.setCell ⟨p, 4, none⟩ (.slice a3 A.length c3) := ⟨_, rfl⟩
  have P4 : w4.heap[p]? = some (.cells #[.int .i64 op, .int .i64 k, .int .i64 out, .int .i64 n, (.slice a3 A.length c3), .slice aE E.length cE] 25 (0, 0)) := by rw [hw4]; exact set_in P3 4 (.slice a3 A.length c3)
  have K4 : w4.heap[w.heap.size]? = some (.cells #[.int .i64 op, .int .i64 k, .int .i64 out, .int .i64 n, .slice aA A.length cA, .slice aE E.length cE] 25 (0, 0)) := by rw [hw4]; exact keep_set K3 (by show p ≠ w.heap.size; omega) _
  have B4 : Below w.heap.size w w4 := by rw [hw4]; exact B3.setCell (by show w.heap.size ≤ p; omega) _
  have o4 : OwnL kInt w2.heap.size w4 (.slice a3 A.length c3) A := by rw [hw4]; exact o3.set (by show p < w2.heap.size; omega) _
  have z4 : w3.heap.size = w4.heap.size := by rw [hw4, size_set]
  rw [← hw4]
  clear hw4 P3 K3 B3 b3 o3
  obtain ⟨v5, w5, r5, o5, b5⟩ := run_copyP (ty := 23) (B := w4.heap.size) (w := w4) (HE.out.under B4) (Nat.le_refl _) (by omega)
  obtain ⟨a5, c5, hv5, _, _⟩ := o5.form
  subst hv5
  have P5 := (b5.block _ (lt_of P4)).trans P4
  have K5 := (b5.block _ (lt_of K4)).trans K4
  have B5 := B4.trans (b5.mono B4.size)
  have z5 := lt_of P4
  have d5 := cell_of K4 5
  have e5 := cell_of P5 5
  have f5 := free_of P5 5
  have o4' := o4.below b5
  simp at d5 e5
  go_upto_region 8 with (at_builtin; refine wpList_catP rfl _ _ rfl _ _ _ (by rfl) (by rfl) r5 ?_)
  clear d5 e5 f5 r5 o4
  obtain ⟨w6, hw6⟩ : ∃ w6, w6 = w5.setCell ⟨p, 5, none⟩ (.slice a5 E.length c5) := ⟨_, rfl⟩
  have P6 : w6.heap[p]? = some (.cells #[.int .i64 op, .int .i64 k, .int .i64 out, .int .i64 n, .slice a3 A.length c3, .slice a5 E.length c5] 25 (0, 0)) := by rw [hw6]; exact set_in P5 5 _
  have K6 : w6.heap[w.heap.size]? = some (.cells #[.int .i64 op, .int .i64 k, .int .i64 out, .int .i64 n, .slice aA A.length cA, .slice aE E.length cE] 25 (0, 0)) := by rw [hw6]; exact keep_set K5 (by show p ≠ w.heap.size; omega) _
  have B6 : Below w.heap.size w w6 := by rw [hw6]; exact B5.setCell (by show w.heap.size ≤ p; omega) _
  have o6 : OwnL kInt w2.heap.size w6 (.slice a3 A.length c3) A := by rw [hw6]; exact o4'.set (by show p < w2.heap.size; omega) _
  have q6 : OwnL kPu w4.heap.size w6 (.slice a5 E.length c5) E := by rw [hw6]; exact o5.set (by show p < w4.heap.size; omega) _
  rw [← hw6]
  clear hw6 P5 K5 B5 b5 o5 o4' P4 K4 B4 P2 K2 B2
  have h1 : HInts (fun _ => True) w6 (.slice a3 A.length c3) A := (ints_row o6.row).wide (fun _ _ _ => trivial)
  have h2 : HPu (fun _ => True) w6 (.slice a5 E.length c5) E := (pu_row q6.row).wide (fun _ _ _ => trivial)
  have h3 := HA.out.under B6
  have h4 := HE.out.under B6
  clear o6 q6 HA HE
  have H1 := hide h1
  have H2 := hide h2
  have H3 := hide h3
  have H4 := hide h4
  clear h1 h2 h3 h4
  refine wp_region_late (fun w' => w'.heap[p]? = some (.cells #[.int .i64 op, .int .i64 k, .int .i64 out, .int .i64 n, .slice a3 A.length c3, .slice a5 E.length c5] 25 (0, 0)) ∧ w'.heap[w.heap.size]? = some (.cells #[.int .i64 op, .int .i64 k, .int .i64 out, .int .i64 n, .slice aA A.length cA, .slice aE E.length cE] 25 (0, 0)) ∧ Below w6.heap.size w6 w') (fun _ => false) (by kernel_rfl) ?_
  have hH : w6.drew.heap[p]? = some (.cells #[.int .i64 op, .int .i64 k, .int .i64 out, .int .i64 n, .slice a3 A.length c3, .slice a5 E.length c5] 25 (0, 0)) ∧ w6.drew.heap[w.heap.size]? = some (.cells #[.int .i64 op, .int .i64 k, .int .i64 out, .int .i64 n, .slice aA A.length cA, .slice aE E.length cE] 25 (0, 0)) ∧ Below w6.heap.size w6 w6.drew := ⟨P6, K6, (Below.refl _ _).drew⟩
  generalize w6.drew = wd at hH ⊢
  refine' wpAnyL_take (i := 0) (oi := ⟨some 25, _, _, _, _, _⟩) (v := _) rfl (by kernel_rfl) (by kernel_rfl) (by kernel_rfl) (by kernel_rfl) (fun _ _ _ h => h) hH (by rfl) ?hyv ?onw
  case hyv =>
    intro wz hSw
    obtain ⟨z1, z2, _⟩ := hSw
    have c0 := cell_of z1 0
    have c1 := cell_of z1 1
    have c2 := cell_of z1 2
    have c3 := cell_of z1 3
    have c4 := cell_of z1 4
    have c5 := cell_of z1 5
    simp at c0 c1 c2 c3 c4 c5
    go_simp
    try rfl
  case onw =>
    try simp only [Act.put, List.setIfInBounds_toArray, List.set_cons_zero, List.set_cons_succ]
    refine' wpAnyL_take (i := 2) (oi := ⟨some 27, _, _, _, _, _⟩) (v := _) rfl (by kernel_rfl) (by kernel_rfl) (by kernel_rfl) (by kernel_rfl) (fun _ _ _ h => h) hH (by rfl) ?hyv ?onw
    case hyv =>
      intro wz hSw
      obtain ⟨z1, z2, _⟩ := hSw
      have c0 := cell_of z2 0
      have c1 := cell_of z2 1
      have c2 := cell_of z2 2
      have c3 := cell_of z2 3
      have c4 := cell_of z2 4
      have c5 := cell_of z2 5
      simp at c0 c1 c2 c3 c4 c5
      go_simp
      try rfl
    case onw =>
      try simp only [Act.put, List.setIfInBounds_toArray, List.set_cons_zero, List.set_cons_succ]
      refine wpAnyL_one (i := 1) (o := _) rfl (by kernel_rfl) (by rfl) (fun K hK => ?_)
      go_simp
      refine (uses_any op k out n (H1.out.under hH.2.2) (H2.out.under hH.2.2) (by omega) (by omega)).mono ?_
      rintro e v1 ⟨va, rfl, own1, bv1⟩
      have hH1 : v1.heap[p]? = some (.cells #[.int .i64 op, .int .i64 k, .int .i64 out, .int .i64 n, .slice a3 A.length c3, .slice a5 E.length c5] 25 (0, 0)) ∧ v1.heap[w.heap.size]? = some (.cells #[.int .i64 op, .int .i64 k, .int .i64 out, .int .i64 n, .slice aA A.length cA, .slice aE E.length cE] 25 (0, 0)) ∧ Below w6.heap.size w6 v1 := ⟨(bv1.block _ (lt_of hH.1)).trans hH.1, (bv1.block _ (lt_of hH.2.1)).trans hH.2.1, hH.2.2.trans (bv1.mono hH.2.2.size)⟩
      refine hK.out _ _ (fun _ => hH1) ?_
      clear hK K
      try simp only [Act.put, List.setIfInBounds_toArray, List.set_cons_zero, List.set_cons_succ]
      refine wpAnyL_one (i := 3) (o := _) rfl (by kernel_rfl) (by rfl) (fun K hK => ?_)
      go_simp
      refine (refUses_any op k out n (H3.out.under hH1.2.2) (H4.out.under hH1.2.2) (by omega) (by omega)).mono ?_
      rintro e v2 ⟨vb, rfl, own2, bv2⟩
      rw [refUses_is] at own2
      have hH2 : v2.heap[p]? = some (.cells #[.int .i64 op, .int .i64 k, .int .i64 out, .int .i64 n, .slice a3 A.length c3, .slice a5 E.length c5] 25 (0, 0)) ∧ v2.heap[w.heap.size]? = some (.cells #[.int .i64 op, .int .i64 k, .int .i64 out, .int .i64 n, .slice aA A.length cA, .slice aE E.length cE] 25 (0, 0)) ∧ Below w6.heap.size w6 v2 := ⟨(bv2.block _ (lt_of hH1.1)).trans hH1.1, (bv2.block _ (lt_of hH1.2.1)).trans hH1.2.1, hH1.2.2.trans (bv2.mono hH1.2.2.size)⟩
      refine hK.out _ _ (fun _ => hH2) ?_
      clear hK K
      try simp only [Act.put, List.setIfInBounds_toArray, List.set_cons_zero, List.set_cons_succ]
      refine wpAnyL_one (i := 4) (o := _) rfl (by kernel_rfl) (by rfl) (fun K hK => ?_)
      go_simp
      have h7 := sameInts_any (ints_row (own1.below bv2).row) (ints_row own2.row)
      rw [(eqL_ieq _ _).2 rfl] at h7
      refine h7.mono ?_
      rintro e v3 ⟨rfl, m3, hm3⟩
      have hH3 : v3.heap[p]? = some (.cells #[.int .i64 op, .int .i64 k, .int .i64 out, .int .i64 n, .slice a3 A.length c3, .slice a5 E.length c5] 25 (0, 0)) ∧ v3.heap[w.heap.size]? = some (.cells #[.int .i64 op, .int .i64 k, .int .i64 out, .int .i64 n, .slice aA A.length cA, .slice aE E.length cE] 25 (0, 0)) ∧ Below w6.heap.size w6 v3 := by rw [hm3]; exact ⟨hH2.1, hH2.2.1, belowDr hH2.2.2 _⟩
      clear hm3 h7
      refine hK.out _ _ (fun _ => hH3) ?_
      clear hK K
      try simp only [Act.put, List.setIfInBounds_toArray, List.set_cons_zero, List.set_cons_succ]
      refine' wpAnyL_take (i := 5) (oi := ⟨some 30, _, _, _, _, _⟩) (v := _) rfl (by kernel_rfl) (by kernel_rfl) (by kernel_rfl) (by kernel_rfl) (fun _ _ _ h => h) hH3 (by rfl) ?hyv ?onw
      case hyv =>
        intro wz hSw
        go_simp
        try rfl
      case onw =>
        try simp only [Act.put, List.setIfInBounds_toArray, List.set_cons_zero, List.set_cons_succ]
        refine' wpAnyL_take (i := 6) (oi := ⟨some 31, _, _, _, _, _⟩) (v := _) rfl (by kernel_rfl) (by kernel_rfl) (by kernel_rfl) (by kernel_rfl) (fun _ _ _ h => h) hH3 (by rfl) ?hyv ?onw
        case hyv =>
          intro wz hSw
          obtain ⟨z1, z2, _⟩ := hSw
          have c0 := cell_of z1 0
          have c1 := cell_of z1 1
          have c2 := cell_of z1 2
          have c3 := cell_of z1 3
          have c4 := cell_of z1 4
          have c5 := cell_of z1 5
          simp at c0 c1 c2 c3 c4 c5
          go_simp
          try rfl
        case onw =>
          try simp only [Act.put, List.setIfInBounds_toArray, List.set_cons_zero, List.set_cons_succ]
          refine' wpAnyL_take (i := 7) (oi := ⟨some 32, _, _, _, _, _⟩) (v := _) rfl (by kernel_rfl) (by kernel_rfl) (by kernel_rfl) (by kernel_rfl) (fun _ _ _ h => h) hH3 (by rfl) ?hyv ?onw
          case hyv =>
            intro wz hSw
            obtain ⟨z1, z2, _⟩ := hSw
            have c0 := cell_of z2 0
            have c1 := cell_of z2 1
            have c2 := cell_of z2 2
            have c3 := cell_of z2 3
            have c4 := cell_of z2 4
            have c5 := cell_of z2 5
            simp at c0 c1 c2 c3 c4 c5
            go_simp
            try rfl
          case onw =>
            try simp only [Act.put, List.setIfInBounds_toArray, List.set_cons_zero, List.set_cons_succ]
            refine wpAnyL_one (i := 8) (o := _) rfl (by kernel_rfl) (by rfl) (fun K hK => ?_)
            go_simp
            refine (sameRule_same op k out n (H1.out.under hH3.2.2) (H2.out.under hH3.2.2) (H3.out.under hH3.2.2) (H4.out.under hH3.2.2)).mono ?_
            rintro e v4 ⟨rfl, bv4⟩
            have hH4 : v4.heap[p]? = some (.cells #[.int .i64 op, .int .i64 k, .int .i64 out, .int .i64 n, .slice a3 A.length c3, .slice a5 E.length c5] 25 (0, 0)) ∧ v4.heap[w.heap.size]? = some (.cells #[.int .i64 op, .int .i64 k, .int .i64 out, .int .i64 n, .slice aA A.length cA, .slice aE E.length cE] 25 (0, 0)) ∧ Below w6.heap.size w6 v4 := ⟨(bv4.block _ (lt_of hH3.1)).trans hH3.1, (bv4.block _ (lt_of hH3.2.1)).trans hH3.2.1, hH3.2.2.trans (bv4.mono hH3.2.2.size)⟩
            refine hK.out _ _ (fun _ => hH4) ?_
            clear hK K
            try simp only [Act.put, List.setIfInBounds_toArray, List.set_cons_zero, List.set_cons_succ]
            refine' wpAnyL_take (i := 9) (oi := ⟨some 34, _, _, _, _, _⟩) (v := _) rfl (by kernel_rfl) (by kernel_rfl) (by kernel_rfl) (by kernel_rfl) (fun _ _ _ h => h) hH4 (by rfl) ?hyv ?onw
            case hyv =>
              intro wz hSw
              go_simp
              try rfl
            case onw =>
              try simp only [Act.put, List.setIfInBounds_toArray, List.set_cons_zero, List.set_cons_succ]
              refine' wpAnyL_take (i := 10) (oi := ⟨some 2, _, _, _, _, _⟩) (v := _) rfl (by kernel_rfl) (by kernel_rfl) (by kernel_rfl) (by kernel_rfl) (fun _ _ _ h => h) hH4 (by rfl) ?hyv ?onw
              case hyv =>
                intro wz hSw
                go_simp
                try rfl
              case onw =>
                try simp only [Act.put, List.setIfInBounds_toArray, List.set_cons_zero, List.set_cons_succ]
                refine wpAnyL_done (by kernel_rfl) ?_ _
                go_wp2
                go_ret
                exact ⟨rfl, B6.trans (hH4.2.2.mono B6.size)⟩
end Go.Proofs.YtfhjejmadhcmnaaDoor
