/-
  DERIVED. THE WALK of SyntaxJoins.
-/
import Derived.Test.YtmgaeapckfdbpaaDoorM34
import Derived.Test.YtmgaeapckfdbpaaDoorM26
import Derived.Test.YtmgaeapckfdbpaaDoorRefScan
import Derived.Test.YtmgaeapckfdbpaaDoorM40
import Derived.Test.YtmgaeapckfdbpaaDoorJoinL
import Derived.Deep.RegionHeld3
import Derived.Deep.DeepCutAuto
namespace Go.Proofs.YtmgaeapckfdbpaaDoor
open Go.RowKit Go.IntWalk
set_option linter.unusedVariables false
set_option linter.unusedSimpArgs false
set_option maxRecDepth 100000

theorem glob_below {w w' : World} (h : GlobT w) (b : Below w.heap.size w w') : GlobT w' := h.keep b.size (b.block 1 h.1)
theorem nds_len {ok : Nat → Prop} {w : World} {a : Option Addr} {n c : Nat} {l : List Nd} (h : HNds ok w (.slice a n c) l) : n = l.length ∧ n ≤ c ∧ c ≤ maxLen := by
  obtain ⟨C, ⟨ao, cap, hv, h1, h2, _⟩, _⟩ := h
  injection hv with e1 e2 e3
  subst e1 e2 e3
  exact ⟨rfl, h1, h2⟩
theorem cat_list (a b : ByteArray) : (a ++ ⟨#[10]⟩ ++ b).data.toList = a.data.toList ++ 10 :: b.data.toList := by
  simp

set_option maxHeartbeats 8000000 in
theorem joins_walk (a b : ByteArray) (ha : a.size ≤ maxLen) (hb : b.size ≤ maxLen) (w : World) (hG : GlobT w) :
    Calls Tryd.prog 3 #[.string a, .string b] w fun e w' => e = .returned (.bool true) ∧ Below w.heap.size w w' := by
  unfold maxLen at ha hb
  by_cases ha1 : 5900 < a.size
  · go_enter Tryd.func3, Tryd.ntmps3
    go_wp2_with (go_at_call 4; refine (begun_any _).mono ?_; rintro e w' ⟨rfl, hb⟩)
    go_ret
    exact ⟨rfl, hb⟩
  · by_cases hb1 : 5900 < b.size
    · go_enter Tryd.func3, Tryd.ntmps3
      go_wp2_with (go_at_call 4; refine (begun_any _).mono ?_; rintro e w' ⟨rfl, hb⟩)
      go_ret
      exact ⟨rfl, hb⟩
    · have da : decide ((5900 : Int) < (a.size : Int)) = false := by simp; omega
      have db : decide ((5900 : Int) < (b.size : Int)) = false := by simp; omega
      have hlen : a.data.toList.length + b.data.toList.length + 1 ≤ 12000 := by rw [← Lib.size_eq, ← Lib.size_eq]; omega
      have hWr := parse_join_wrong a.data.toList b.data.toList hlen
      have hJo := parse_join a.data.toList b.data.toList hlen
      have fA := fitP_parse a.data.toList
      have fB := fitP_parse b.data.toList
      have gA := (fit_parse a.data.toList).1
      have gB := (fit_parse b.data.toList).1
      have pB1 : ∀ P, P = parseT b.data.toList → P.2.1 = 0 → ∀ (h0 : 0 < P.1.length), 0 ≤ (P.1[0]).place ∧ (P.1[0]).place ≤ (b.size : Int) := by
        rintro P rfl
        rw [Lib.size_eq]
        exact first_place _
      rw [← cat_list] at hWr hJo
      obtain ⟨PA, hPA⟩ : ∃ P, P = parseT a.data.toList := ⟨_, rfl⟩
      obtain ⟨PB, hPB⟩ : ∃ P, P = parseT b.data.toList := ⟨_, rfl⟩
      obtain ⟨PC, hPC⟩ : ∃ P, P = parseT (a ++ ⟨#[10]⟩ ++ b).data.toList := ⟨_, rfl⟩
      rw [← hPA, ← hPC] at hWr
      rw [← hPA, ← hPB, ← hPC, ← Lib.size_eq] at hJo
      rw [← hPA] at fA gA
      rw [← hPB] at fB gB
      have pB0 := pB1 PB hPB
      clear pB1
      have HA := hide hPA
      have HB := hide hPB
      have HC := hide hPC
      clear hPA hPB hPC hlen
      obtain ⟨LA, cA, pA⟩ := PA
      obtain ⟨LB, cB, pB⟩ := PB
      obtain ⟨LC, cC, pC⟩ := PC
      simp only at hWr hJo fA fB gA gB pB0
      have HP0 := hide pB0
      clear pB0
      have HW := hide hWr
      have HJ := hide hJo
      have FA := hide fA
      have FB := hide fB
      clear hWr hJo fA fB
      go_enter Tryd.func3, Tryd.ntmps3
      go_wp2_with (go_at_call 4; refine (begun_any _).mono ?_; rintro e w0 ⟨rfl, b0⟩)
      have y0 := b0.size
      refine (parse_all a w0 (by omega) (glob_below hG b0)).mono ?_
      rintro r w1 ⟨b1, a1, n1, c1, he, hN1⟩
      rw [← HA.out] at he hN1
      subst he
      obtain ⟨e1, k1, m1⟩ := nds_len hN1
      subst e1
      have B1 := b0.trans (b1.mono y0)
      have y1 := B1.size
      clear b0 b1
      go_wp2_with fail
      have q1 := (B1.alloc y1 (.cells #[.slice a1 LA.length c1] 25 (0, 0))).alloc (by simp; omega) (.cells #[.int .i64 cA, .int .i64 pA] 27 (0, 0))
      have r1 := ((Below.refl w1.heap.size w1).alloc (Nat.le_refl _) (.cells #[.slice a1 LA.length c1] 25 (0, 0))).alloc (by simp) (.cells #[.int .i64 cA, .int .i64 pA] 27 (0, 0))
      have K1 := keep_alloc (heap_new w1 (.cells #[.slice a1 LA.length c1] 25 (0, 0))) (.cells #[.int .i64 cA, .int .i64 pA] 27 (0, 0))
      have K1' := heap_new (w1.alloc (.cells #[.slice a1 LA.length c1] 25 (0, 0))) (.cells #[.int .i64 cA, .int .i64 pA] 27 (0, 0))
      rw [show (w1.alloc (.cells #[.slice a1 LA.length c1] 25 (0, 0))).heap.size = w1.heap.size + 1 by simp] at K1'
      refine (parse_all b _ (by omega) (glob_below hG q1)).mono ?_
      rintro r w2 ⟨b2, a2, n2, c2, he, hN2⟩
      rw [← HB.out] at he hN2
      subst he
      obtain ⟨e2, k2, m2⟩ := nds_len hN2
      subst e2
      have z2 := b2.size
      simp at z2
      have K2 := (aside b2 (S := [])).keep K1 (by simp; omega) (by simp)
      have K2' := (aside b2 (S := [])).keep K1' (by simp) (by simp)
      have r2 := r1.trans (b2.mono (by simp; omega))
      have B2 := q1.trans (b2.mono (by simp; omega))
      have y2 := B2.size
      have N1 := hN1.under r2
      clear b2 K1 K1' q1 r1 hN1
      go_wp2_with fail
      have q2 := (B2.alloc y2 (.cells #[.slice a2 LB.length c2] 25 (0, 0))).alloc (by simp; omega) (.cells #[.int .i64 cB, .int .i64 pB] 27 (0, 0))
      have r3 := ((Below.refl w2.heap.size w2).alloc (Nat.le_refl _) (.cells #[.slice a2 LB.length c2] 25 (0, 0))).alloc (by simp) (.cells #[.int .i64 cB, .int .i64 pB] 27 (0, 0))
      have J2 := keep_alloc (heap_new w2 (.cells #[.slice a2 LB.length c2] 25 (0, 0))) (.cells #[.int .i64 cB, .int .i64 pB] 27 (0, 0))
      have J2' := heap_new (w2.alloc (.cells #[.slice a2 LB.length c2] 25 (0, 0))) (.cells #[.int .i64 cB, .int .i64 pB] 27 (0, 0))
      rw [show (w2.alloc (.cells #[.slice a2 LB.length c2] 25 (0, 0))).heap.size = w2.heap.size + 1 by simp] at J2'
      refine (parse_all _ _ (by have h1 : (⟨#[10]⟩ : ByteArray).size = 1 := rfl; simp [h1]; omega) (glob_below hG q2)).mono ?_
      rintro r w3 ⟨b3, a3, n3, c3, he, hN3⟩
      rw [← HC.out] at he hN3
      subst he
      obtain ⟨e3, k3, m3⟩ := nds_len hN3
      subst e3
      have z3 := b3.size
      simp at z3
      have K3 := (aside b3 (S := [])).keep (keep_alloc (keep_alloc K2 _) _) (by simp; omega) (by simp)
      have K3' := (aside b3 (S := [])).keep (keep_alloc (keep_alloc K2' _) _) (by simp; omega) (by simp)
      have J3 := (aside b3 (S := [])).keep J2 (by simp; omega) (by simp)
      have J3' := (aside b3 (S := [])).keep J2' (by simp) (by simp)
      have r4 := r3.trans (b3.mono (by simp; omega))
      have B3 := q2.trans (b3.mono (by simp; omega))
      have y3 := B3.size
      have N1' := N1.under r4
      have N2' := hN2.under r4
      clear b3 K2 K2' J2 J2' q2 r3 hN2 N1 r4 r2
      have P5 := cell_of K3 0
      have P6 := cell_of K3' 0
      have P6' := cell_of K3' 1
      have P7 := cell_of J3 0
      have P8 := cell_of J3' 0
      have P8' := cell_of J3' 1
      simp at P5 P6 P6' P7 P8 P8'
      have x5 : w1.heap.size < w3.heap.size := by omega
      have x6 : w1.heap.size + 1 < w3.heap.size := by omega
      have x7 : w2.heap.size < w3.heap.size := by omega
      have x8 : w2.heap.size + 1 < w3.heap.size := by omega
      unfold maxLen at m1 m2 m3
      by_cases h4 : cA = 4 ∨ cA = 6
      · have hR := HW.out h4
        have HRh := hide hR
        clear hR
        rcases h4 with h4 | h4
        · subst h4
          go_wp2_with fail
          refine (refScan_any b _ (by omega)).mono ?_
          rintro r w4 ⟨v4, rfl, hown4, b4⟩
          have z4 := b4.size
          simp at z4
          have U := heap_new (w3.alloc (.cells #[.slice a3 LC.length c3] 25 (0, 0))) (.cells #[.int .i64 cC, .int .i64 pC] 27 (0, 0))
          rw [show (w3.alloc (.cells #[.slice a3 LC.length c3] 25 (0, 0))).heap.size = w3.heap.size + 1 by simp] at U
          have U4 := (aside b4 (S := [])).keep U (by simp) (by simp)
          have V4 := (aside b4 (S := [])).keep (keep_alloc (keep_alloc K3' _) _) (by simp; omega) (by simp)
          have u0 := cell_of U4 0
          have u1 := cell_of U4 1
          have t0 := cell_of V4 0
          have t1 := cell_of V4 1
          simp at u0 u1 t0 t1
          have B4 := ((B3.alloc y3 (.cells #[.slice a3 LC.length c3] 25 (0, 0))).alloc (by simp; omega) (.cells #[.int .i64 cC, .int .i64 pC] 27 (0, 0))).trans (b4.mono (by simp; omega))
          have y4 := B4.size
          obtain ⟨sc, hsc⟩ : ∃ sc, sc = (Tk.scan b.data.toList).2.1 := ⟨_, rfl⟩
          have HR := HRh.out
          rw [← hsc] at HR ⊢
          have x10 : w3.heap.size + 1 < w4.heap.size := by omega
          have x6' : w1.heap.size + 1 < w4.heap.size := by omega
          clear U U4 V4 b4 hown4 hsc HRh
          by_cases hs0 : sc = 0
          · have he : (cC, pC) = (4, pA) := by
              rcases HR with h | h
              · exact h
              · exact absurd hs0 h
            injection he with e5 e6
            subst e5 e6
            clear HR
            go_wp2
            go_ret
            exact ⟨by simp, B4.alloc y4 _⟩
          · have hsb : (sc == 0) = false := beq_eq_false_iff_ne.2 hs0
            clear HR
            go_wp2
            all_goals go_ret
            all_goals exact ⟨by simp [hs0], B4.alloc y4 _⟩
        · subst h4
          go_wp2_with fail
          refine (refScan_any b _ (by omega)).mono ?_
          rintro r w4 ⟨v4, rfl, hown4, b4⟩
          have z4 := b4.size
          simp at z4
          have U := heap_new (w3.alloc (.cells #[.slice a3 LC.length c3] 25 (0, 0))) (.cells #[.int .i64 cC, .int .i64 pC] 27 (0, 0))
          rw [show (w3.alloc (.cells #[.slice a3 LC.length c3] 25 (0, 0))).heap.size = w3.heap.size + 1 by simp] at U
          have U4 := (aside b4 (S := [])).keep U (by simp) (by simp)
          have V4 := (aside b4 (S := [])).keep (keep_alloc (keep_alloc K3' _) _) (by simp; omega) (by simp)
          have u0 := cell_of U4 0
          have u1 := cell_of U4 1
          have t0 := cell_of V4 0
          have t1 := cell_of V4 1
          simp at u0 u1 t0 t1
          have B4 := ((B3.alloc y3 (.cells #[.slice a3 LC.length c3] 25 (0, 0))).alloc (by simp; omega) (.cells #[.int .i64 cC, .int .i64 pC] 27 (0, 0))).trans (b4.mono (by simp; omega))
          have y4 := B4.size
          obtain ⟨sc, hsc⟩ : ∃ sc, sc = (Tk.scan b.data.toList).2.1 := ⟨_, rfl⟩
          have HR := HRh.out
          rw [← hsc] at HR ⊢
          have x10 : w3.heap.size + 1 < w4.heap.size := by omega
          have x6' : w1.heap.size + 1 < w4.heap.size := by omega
          clear U U4 V4 b4 hown4 hsc HRh
          by_cases hs0 : sc = 0
          · have he : (cC, pC) = (6, pA) := by
              rcases HR with h | h
              · exact h
              · exact absurd hs0 h
            injection he with e5 e6
            subst e5 e6
            clear HR
            go_wp2
            go_ret
            exact ⟨by simp, B4.alloc y4 _⟩
          · have hsb : (sc == 0) = false := beq_eq_false_iff_ne.2 hs0
            clear HR
            go_wp2
            all_goals go_ret
            all_goals exact ⟨by simp [hs0], B4.alloc y4 _⟩
      · have h44 : (cA == 4) = false := beq_eq_false_iff_ne.2 (fun h => h4 (.inl h))
        have h46 : (cA == 6) = false := beq_eq_false_iff_ne.2 (fun h => h4 (.inr h))
        have BW := (B3.alloc y3 (.cells #[.slice a3 LC.length c3] 25 (0, 0))).alloc (by simp; omega) (.cells #[.int .i64 cC, .int .i64 pC] 27 (0, 0))
        by_cases hA0 : cA = 0
        · by_cases hB0 : cB = 0
          · obtain ⟨hne, hj1, hj2⟩ := HJ.out hA0 hB0
            have hnl : 0 < LB.length := List.length_pos_iff.2 hne
            by_cases hgt : 10 < LA.length + LB.length
            · have hc7 := hj1 hgt
              subst hA0 hB0 hc7
              have hd : decide ((10 : Int) < (LA.length : Int) + (LB.length : Int)) = true := by simp; omega
              clear hj1 hj2 HJ HW
              go_wp2
              go_ret
              exact ⟨rfl, BW⟩
            · have he := hj2 (by omega)
              injection he with e5 e6
              injection e6 with e6 e7
              have hd : decide ((10 : Int) < (LA.length : Int) + (LB.length : Int)) = false := by simp; omega
              subst hA0 hB0 e6 e7
              have HL := hide e5
              clear hj1 hj2 HJ HW e5
              have BWA := BW
              have N1A := N1'.under (((Below.refl w3.heap.size w3).alloc (Nat.le_refl _) (.cells #[.slice a3 LC.length c3] 25 (0, 0))).alloc (by simp) (.cells #[.int .i64 0, .int .i64 0] 27 (0, 0))).drew
              have N2A := N2'.under (((Below.refl w3.heap.size w3).alloc (Nat.le_refl _) (.cells #[.slice a3 LC.length c3] 25 (0, 0))).alloc (by simp) (.cells #[.int .i64 0, .int .i64 0] 27 (0, 0))).drew
              have c5 := cell_of (keep_alloc (keep_alloc K3 (.cells #[.slice a3 LC.length c3] 25 (0, 0))) (.cells #[.int .i64 0, .int .i64 0] 27 (0, 0))) 0
              have c7 := cell_of (keep_alloc (keep_alloc J3 (.cells #[.slice a3 LC.length c3] 25 (0, 0))) (.cells #[.int .i64 0, .int .i64 0] 27 (0, 0))) 0
              simp only [List.getElem?_toArray, List.getElem?_cons_zero] at c5 c7
              have hneB := hne
              go_upto_region 15 with fail
              go_cut [13] (fun v13 wx => ∃ bb a4 n4 c4, v13 = .pointer (some ⟨bb, 0, none⟩) ∧ wx.heap[bb]? = some (.cells #[.slice a4 n4 c4] 25 (0, 0)) ∧ HNds (fun k => k ≠ bb) wx (.slice a4 n4 c4) (LA ++ LB) ∧ Below ((w3.alloc (.cells #[.slice a3 LC.length c3] 25 (0, 0))).alloc (.cells #[.int .i64 0, .int .i64 0] 27 (0, 0))).heap.size ((w3.alloc (.cells #[.slice a3 LC.length c3] 25 (0, 0))).alloc (.cells #[.int .i64 0, .int .i64 0] 27 (0, 0))).drew wx)
              case first =>
                refine wp_region_late (fun w' => w'.cell? ⟨w1.heap.size, 0, none⟩ = some (.slice a1 LA.length c1) ∧ w'.cell? ⟨w2.heap.size, 0, none⟩ = some (.slice a2 LB.length c2)) (fun j => decide (j = 9)) (by kernel_rfl) ?_
                obtain ⟨WA, hWA⟩ : ∃ WA, WA = ((w3.alloc (.cells #[.slice a3 LC.length c3] 25 (0, 0))).alloc (.cells #[.int .i64 0, .int .i64 0] 27 (0, 0))).drew := ⟨_, rfl⟩
                have zWA : WA.heap.size = w3.heap.size + 1 + 1 := by rw [hWA]; show (World.heap (World.alloc _ _)).size = _; simp
                have zW0 : ((w3.alloc (.cells #[.slice a3 LC.length c3] 25 (0, 0))).alloc (.cells #[.int .i64 0, .int .i64 0] 27 (0, 0))).heap.size = WA.heap.size := by rw [hWA]; rfl
                have c5 : WA.cell? ⟨w1.heap.size, 0, none⟩ = some (.slice a1 LA.length c1) := by rw [hWA]; exact c5
                have c7 : WA.cell? ⟨w2.heap.size, 0, none⟩ = some (.slice a2 LB.length c2) := by rw [hWA]; exact c7
                rw [← hWA] at N1A N2A ⊢
                have x5A : w1.heap.size < WA.heap.size := by omega
                have x7A : w2.heap.size < WA.heap.size := by omega
                clear zWA
                have HWA := hide hWA
                have HZ0 := hide zW0
                clear hWA zW0 BWA
                have c5WA := c5
                have c7WA := c7
                have BWA := Below.refl WA.heap.size WA
                have yWA := Nat.le_refl WA.heap.size
                refine' wpAnyL_take (i := 0) (oi := { dst := some 82, op := Op.load 25 (Operand.tmp 5), type := 25, pos := "law02.go:61", after := #[], guard := none }) (v := _) rfl (by kernel_rfl) (by kernel_rfl) (by kernel_rfl) (by kernel_rfl) (fun _ _ _ h => h) (And.intro c5 c7) (by rfl) ?hyv ?onw
                case hyv =>
                  intro wz hSw
                  obtain ⟨k0, k1⟩ := hSw
                  go_simp
                  try rfl
                case onw =>
                  try simp only [Act.put, List.setIfInBounds_toArray, List.set_cons_zero, List.set_cons_succ]
                  refine' wpAnyL_take (i := 3) (oi := { dst := some 85, op := Op.load 25 (Operand.tmp 7), type := 25, pos := "law02.go:61", after := #[], guard := none }) (v := _) rfl (by kernel_rfl) (by kernel_rfl) (by kernel_rfl) (by kernel_rfl) (fun _ _ _ h => h) (And.intro c5 c7) (by rfl) ?hyv ?onw
                  case hyv =>
                    intro wz hSw
                    obtain ⟨k0, k1⟩ := hSw
                    go_simp
                    try rfl
                  case onw =>
                    try simp only [Act.put, List.setIfInBounds_toArray, List.set_cons_zero, List.set_cons_succ]
                    refine wpAnyL_two (i := 1) (j := 8) (oi := { dst := some 83, op := Op.call { callee := Callee.value (Operand.func 7), args := #[Operand.tmp 82], argTypes := #[25] }, type := 25, pos := "law02.go:61", after := #[{ on := 0, ground := Ground.data }], guard := none }) (oj := { dst := some 13, op := Op.alloc 25, type := 0, pos := "law02.go:61", after := #[], guard := none }) rfl rfl (by kernel_rfl) (by rfl) (by rfl) (fun K hK => ?_) (fun K hK => ?_)
                    · as_aux_lemma =>
                        go_simp
                        refine (copyProgram_own (N1A.under BWA) FA.out).mono ?_
                        rintro r X1 ⟨d1, f1, g1, rfl, D1, ow1, hd1, bT⟩
                        have O1X1 := own_copy ow1 hd1
                        clear ow1 hd1
                        obtain ⟨_, _, he1, _, _⟩ := O1X1.form
                        obtain rfl : f1 = LA.length := by injection he1
                        clear he1
                        have BX1 := BWA.trans (bT.mono yWA)
                        have yX1 := BX1.size
                        have sX1 := bT.size
                        have c5X1 := (BX1.cell (p := ⟨w1.heap.size, 0, none⟩) (by show w1.heap.size < _; omega)).trans c5
                        have c7X1 := (BX1.cell (p := ⟨w2.heap.size, 0, none⟩) (by show w2.heap.size < _; omega)).trans c7
                        refine hK.out _ _ (fun _ => And.intro c5X1 c7X1) ?_
                        clear hK K
                        try simp only [Act.put, List.setIfInBounds_toArray, List.set_cons_zero, List.set_cons_succ]
                        clear bT
                        refine' wpAnyL_take (i := 2) (oi := { dst := some 84, op := Op.field 25 (Operand.tmp 83) 0, type := 23, pos := "law02.go:61", after := #[{ on := 1, ground := Ground.data }], guard := none }) (v := _) rfl (by kernel_rfl) (by kernel_rfl) (by kernel_rfl) (by kernel_rfl) (fun _ _ _ h => h) (And.intro c5X1 c7X1) (by rfl) ?hyv ?onw
                        case hyv =>
                          intro wz hSw
                          obtain ⟨k0, k1⟩ := hSw
                          go_simp
                          try rfl
                        case onw =>
                          try simp only [Act.put, List.setIfInBounds_toArray, List.set_cons_zero, List.set_cons_succ]
                          refine wpAnyL_two (i := 4) (j := 8) (oi := { dst := some 86, op := Op.call { callee := Callee.value (Operand.func 7), args := #[Operand.tmp 85], argTypes := #[25] }, type := 25, pos := "law02.go:61", after := #[{ on := 3, ground := Ground.data }, { on := 1, ground := Ground.chain }], guard := none }) (oj := { dst := some 13, op := Op.alloc 25, type := 0, pos := "law02.go:61", after := #[], guard := none }) rfl rfl (by kernel_rfl) (by rfl) (by rfl) (fun K hK => ?_) (fun K hK => ?_)
                          · as_aux_lemma =>
                              go_simp
                              refine (copyProgram_own (N2A.under BX1) FB.out).mono ?_
                              rintro r X2 ⟨d2, f2, g2, rfl, D2, ow2, hd2, bT⟩
                              have O2X2 := own_copy ow2 hd2
                              clear ow2 hd2
                              obtain ⟨_, _, he2, _, _⟩ := O2X2.form
                              obtain rfl : f2 = LB.length := by injection he2
                              clear he2
                              have BX2 := BX1.trans (bT.mono yX1)
                              have yX2 := BX2.size
                              have sX2 := bT.size
                              have O1X2 := O1X1.under bT
                              have c5X2 := (BX2.cell (p := ⟨w1.heap.size, 0, none⟩) (by show w1.heap.size < _; omega)).trans c5
                              have c7X2 := (BX2.cell (p := ⟨w2.heap.size, 0, none⟩) (by show w2.heap.size < _; omega)).trans c7
                              refine hK.out _ _ (fun _ => And.intro c5X2 c7X2) ?_
                              clear hK K
                              try simp only [Act.put, List.setIfInBounds_toArray, List.set_cons_zero, List.set_cons_succ]
                              clear bT
                              refine' wpAnyL_take (i := 5) (oi := { dst := some 87, op := Op.field 25 (Operand.tmp 86) 0, type := 23, pos := "law02.go:61", after := #[{ on := 4, ground := Ground.data }], guard := none }) (v := _) rfl (by kernel_rfl) (by kernel_rfl) (by kernel_rfl) (by kernel_rfl) (fun _ _ _ h => h) (And.intro c5X2 c7X2) (by rfl) ?hyv ?onw
                              case hyv =>
                                intro wz hSw
                                obtain ⟨k0, k1⟩ := hSw
                                go_simp
                                try rfl
                              case onw =>
                                try simp only [Act.put, List.setIfInBounds_toArray, List.set_cons_zero, List.set_cons_succ]
                                refine wpAnyL_two (i := 6) (j := 8) (oi := { dst := some 88, op := Op.call { callee := Callee.builtin Builtin.append, args := #[Operand.tmp 84, Operand.tmp 87], argTypes := #[23, 23] }, type := 23, pos := "law02.go:61", after := #[{ on := 2, ground := Ground.data }, { on := 5, ground := Ground.data }, { on := 4, ground := Ground.chain }], guard := none }) (oj := { dst := some 13, op := Op.alloc 25, type := 0, pos := "law02.go:61", after := #[], guard := none }) rfl rfl (by kernel_rfl) (by rfl) (by rfl) (fun K hK => ?_) (fun K hK => ?_)
                                · as_aux_lemma =>
                                    have hap : ∀ k, (Value.slice d1 LA.length g1).ownBlock = some k → ¬ (X1.heap.size ≤ k ∧ k < X2.heap.size) := fun k hk h => by have h9 := (O1X2.lt k hk).1; have h8 : WA.heap.size ≤ k ∧ k < X1.heap.size := h9; omega
                                    refine oper_joinX kNode _ _ 23 rfl Tryd.underlying23 (by rfl) (by rfl) O1X2 O2X2.row hneB hap (by show _ * 144 ≤ _; omega) (by unfold maxLen; omega) ?_
                                    intro v3 X3 HNX3 gr
                                    have lo := O1X2.lt
                                    have BX3 : Below WA.heap.size WA X3 := BX2.grown gr yX2 (fun k hk => by have h9 := (lo k hk).1; have h8 : WA.heap.size ≤ k ∧ k < X1.heap.size := h9; omega)
                                    have yX3 := BX3.size
                                    have sg := gr.size
                                    obtain ⟨aa3, cc3, hv9, kc3, mc3⟩ := HNX3.form
                                    rw [List.length_append] at hv9
                                    subst hv9
                                    clear hap gr lo
                                    have c5X3 := (BX3.cell (p := ⟨w1.heap.size, 0, none⟩) (by show w1.heap.size < _; omega)).trans c5
                                    have c7X3 := (BX3.cell (p := ⟨w2.heap.size, 0, none⟩) (by show w2.heap.size < _; omega)).trans c7
                                    refine hK.out _ _ (fun _ => And.intro c5X3 c7X3) ?_
                                    clear hK K
                                    try simp only [Act.put, List.setIfInBounds_toArray, List.set_cons_zero, List.set_cons_succ]
                                    refine' wpAnyL_take (i := 7) (oi := { dst := some 89, op := Op.build 25 #[(0, Operand.tmp 88)], type := 25, pos := "law02.go:61", after := #[{ on := 6, ground := Ground.data }], guard := none }) (v := _) rfl (by kernel_rfl) (by kernel_rfl) (by kernel_rfl) (by kernel_rfl) (fun _ _ _ h => h) (And.intro c5X3 c7X3) (by rfl) ?hyv ?onw
                                    case hyv =>
                                      intro wz hSw
                                      obtain ⟨k0, k1⟩ := hSw
                                      go_simp
                                      try rfl
                                    case onw =>
                                      try simp only [Act.put, List.setIfInBounds_toArray, List.set_cons_zero, List.set_cons_succ]
                                      refine wpAnyL_one (i := 8) (o := { dst := some 13, op := Op.alloc 25, type := 0, pos := "law02.go:61", after := #[], guard := none }) rfl (by kernel_rfl) (by rfl) (fun K hK => ?_)
                                      go_simp
                                      obtain ⟨bb, hbb⟩ : ∃ bb, bb = X3.heap.size := ⟨_, rfl⟩
                                      have BT : Below WA.heap.size WA (X3.alloc (.cells #[.slice none 0 0] 25 (0, 0))) := BX3.alloc yX3 _
                                      have KT : (X3.alloc (.cells #[.slice none 0 0] 25 (0, 0))).heap[bb]? = some (.cells #[.slice none 0 0] 25 (0, 0)) := by rw [hbb]; exact heap_new _ _
                                      have bT : Below X3.heap.size X3 (X3.alloc (.cells #[.slice none 0 0] 25 (0, 0))) := (Below.refl _ _).alloc (Nat.le_refl _) _
                                      have zT : (X3.alloc (.cells #[.slice none 0 0] 25 (0, 0))).heap.size = bb + 1 := by rw [hbb]; simp
                                      rw [← hbb]
                                      generalize X3.alloc (.cells #[.slice none 0 0] 25 (0, 0)) = X4 at BT KT bT zT ⊢
                                      have BX4 := BT
                                      have yX4 := BX4.size
                                      have KX4 := KT
                                      have HNX4 := (HNX3.wide (ok' := fun k => k < bb) (fun k _ hl => by omega)).keep bT.size (fun k _ hl => bT.block k hl)
                                      have c5X4 := (BX4.cell (p := ⟨w1.heap.size, 0, none⟩) (by show w1.heap.size < _; omega)).trans c5
                                      have c7X4 := (BX4.cell (p := ⟨w2.heap.size, 0, none⟩) (by show w2.heap.size < _; omega)).trans c7
                                      refine hK.out _ _ (fun _ => And.intro c5X4 c7X4) ?_
                                      clear hK K
                                      try simp only [Act.put, List.setIfInBounds_toArray, List.set_cons_zero, List.set_cons_succ]
                                      have hb1 : X3.heap.size ≤ bb := by omega
                                      have hb2 : bb ≤ X3.heap.size := by omega
                                      have hb3 : bb < X4.heap.size := by omega
                                      clear BT KT bT hbb zT
                                      refine wpAnyL_one (i := 9) (o := { dst := none, op := Op.store 25 (Operand.tmp 13) (Operand.tmp 89), type := 0, pos := "law02.go:61", after := #[{ on := 8, ground := Ground.data }, { on := 7, ground := Ground.data }, { on := 6, ground := Ground.chain }, { on := 0, ground := Ground.phase }, { on := 1, ground := Ground.phase }, { on := 2, ground := Ground.phase }, { on := 3, ground := Ground.phase }, { on := 4, ground := Ground.phase }, { on := 5, ground := Ground.phase }, { on := 6, ground := Ground.phase }, { on := 7, ground := Ground.phase }, { on := 8, ground := Ground.phase }], guard := none }) rfl (by kernel_rfl) (by rfl) (fun K hK => ?_)
                                      have f0 := fun o => free_of KX4 o
                                      have g0 := cell_of KX4 0
                                      simp only [List.getElem?_toArray, List.getElem?_cons_zero] at g0
                                      have kb := lt_of KX4
                                      go_simp
                                      refine hK.out _ _ (fun h => by cases h) ?_
                                      clear hK K
                                      try simp only [Act.put, List.setIfInBounds_toArray, List.set_cons_zero, List.set_cons_succ]
                                      refine wpAnyL_done (by kernel_rfl) ?_ _
                                      go_wp2_with fail
                                      go_meet
                                      case rel =>
                                        rw [HZ0.out, ← HWA.out]
                                        have hS := set_in KX4 0 (.slice aa3 (LA.length + LB.length) cc3)
                                        simp only [List.setIfInBounds_toArray, List.set_cons_zero] at hS
                                        have H9 := HNX4.wide (ok' := fun k => k ≠ bb) (fun k hk hl => by omega)
                                        have H8 := H9.keep (w' := X4.setCell ⟨bb, 0, none⟩ (.slice aa3 (LA.length + LB.length) cc3)) (by rw [size_set]; exact Nat.le_refl _) (fun k hk _ => Below.heap_setCell _ _ _ _ hk)
                                        exact ⟨bb, aa3, (LA.length + LB.length), cc3, rfl, hS, H8, BX4.setCell (p := ⟨bb, 0, none⟩) (by show WA.heap.size ≤ bb; omega) _⟩
                                · as_aux_lemma =>
                                    go_simp
                                    obtain ⟨bb, hbb⟩ : ∃ bb, bb = X2.heap.size := ⟨_, rfl⟩
                                    have BT : Below WA.heap.size WA (X2.alloc (.cells #[.slice none 0 0] 25 (0, 0))) := BX2.alloc yX2 _
                                    have KT : (X2.alloc (.cells #[.slice none 0 0] 25 (0, 0))).heap[bb]? = some (.cells #[.slice none 0 0] 25 (0, 0)) := by rw [hbb]; exact heap_new _ _
                                    have bT : Below X2.heap.size X2 (X2.alloc (.cells #[.slice none 0 0] 25 (0, 0))) := (Below.refl _ _).alloc (Nat.le_refl _) _
                                    have zT : (X2.alloc (.cells #[.slice none 0 0] 25 (0, 0))).heap.size = bb + 1 := by rw [hbb]; simp
                                    rw [← hbb]
                                    generalize X2.alloc (.cells #[.slice none 0 0] 25 (0, 0)) = X5 at BT KT bT zT ⊢
                                    have BX5 := BT
                                    have yX5 := BX5.size
                                    have KX5 := KT
                                    have O1X5 := O1X2.under bT
                                    have O2X5 := O2X2.under bT
                                    have c5X5 := (BX5.cell (p := ⟨w1.heap.size, 0, none⟩) (by show w1.heap.size < _; omega)).trans c5
                                    have c7X5 := (BX5.cell (p := ⟨w2.heap.size, 0, none⟩) (by show w2.heap.size < _; omega)).trans c7
                                    refine hK.out _ _ (fun _ => And.intro c5X5 c7X5) ?_
                                    clear hK K
                                    try simp only [Act.put, List.setIfInBounds_toArray, List.set_cons_zero, List.set_cons_succ]
                                    have hb1 : X2.heap.size ≤ bb := by omega
                                    have hb2 : bb ≤ X2.heap.size := by omega
                                    have hb3 : bb < X5.heap.size := by omega
                                    clear BT KT bT hbb zT
                                    refine wpAnyL_one (i := 6) (o := { dst := some 88, op := Op.call { callee := Callee.builtin Builtin.append, args := #[Operand.tmp 84, Operand.tmp 87], argTypes := #[23, 23] }, type := 23, pos := "law02.go:61", after := #[{ on := 2, ground := Ground.data }, { on := 5, ground := Ground.data }, { on := 4, ground := Ground.chain }], guard := none }) rfl (by kernel_rfl) (by rfl) (fun K hK => ?_)
                                    have hap : ∀ k, (Value.slice d1 LA.length g1).ownBlock = some k → ¬ (X1.heap.size ≤ k ∧ k < X2.heap.size) := fun k hk h => by have h9 := (O1X5.lt k hk).1; have h8 : WA.heap.size ≤ k ∧ k < X1.heap.size := h9; omega
                                    refine oper_joinX kNode _ _ 23 rfl Tryd.underlying23 (by rfl) (by rfl) O1X5 O2X5.row hneB hap (by show _ * 144 ≤ _; omega) (by unfold maxLen; omega) ?_
                                    intro v6 X6 HNX6 gr
                                    have lo := O1X5.lt
                                    have BX6 : Below WA.heap.size WA X6 := BX5.grown gr yX5 (fun k hk => by have h9 := (lo k hk).1; have h8 : WA.heap.size ≤ k ∧ k < X1.heap.size := h9; omega)
                                    have yX6 := BX6.size
                                    have sg := gr.size
                                    have KX6 := (gr.block bb (lt_of KX5) (fun e => by have h9 := (lo bb e.symm).1; have h8 : WA.heap.size ≤ bb ∧ bb < X1.heap.size := h9; have h7 := lt_of KX5; omega)).trans KX5
                                    have kk := lt_of KX5
                                    obtain ⟨aa6, cc6, hv9, kc6, mc6⟩ := HNX6.form
                                    rw [List.length_append] at hv9
                                    subst hv9
                                    clear hap gr lo
                                    have c5X6 := (BX6.cell (p := ⟨w1.heap.size, 0, none⟩) (by show w1.heap.size < _; omega)).trans c5
                                    have c7X6 := (BX6.cell (p := ⟨w2.heap.size, 0, none⟩) (by show w2.heap.size < _; omega)).trans c7
                                    refine hK.out _ _ (fun _ => And.intro c5X6 c7X6) ?_
                                    clear hK K
                                    try simp only [Act.put, List.setIfInBounds_toArray, List.set_cons_zero, List.set_cons_succ]
                                    refine' wpAnyL_take (i := 7) (oi := { dst := some 89, op := Op.build 25 #[(0, Operand.tmp 88)], type := 25, pos := "law02.go:61", after := #[{ on := 6, ground := Ground.data }], guard := none }) (v := _) rfl (by kernel_rfl) (by kernel_rfl) (by kernel_rfl) (by kernel_rfl) (fun _ _ _ h => h) (And.intro c5X6 c7X6) (by rfl) ?hyv ?onw
                                    case hyv =>
                                      intro wz hSw
                                      obtain ⟨k0, k1⟩ := hSw
                                      go_simp
                                      try rfl
                                    case onw =>
                                      try simp only [Act.put, List.setIfInBounds_toArray, List.set_cons_zero, List.set_cons_succ]
                                      refine wpAnyL_one (i := 9) (o := { dst := none, op := Op.store 25 (Operand.tmp 13) (Operand.tmp 89), type := 0, pos := "law02.go:61", after := #[{ on := 8, ground := Ground.data }, { on := 7, ground := Ground.data }, { on := 6, ground := Ground.chain }, { on := 0, ground := Ground.phase }, { on := 1, ground := Ground.phase }, { on := 2, ground := Ground.phase }, { on := 3, ground := Ground.phase }, { on := 4, ground := Ground.phase }, { on := 5, ground := Ground.phase }, { on := 6, ground := Ground.phase }, { on := 7, ground := Ground.phase }, { on := 8, ground := Ground.phase }], guard := none }) rfl (by kernel_rfl) (by rfl) (fun K hK => ?_)
                                      have f0 := fun o => free_of KX6 o
                                      have g0 := cell_of KX6 0
                                      simp only [List.getElem?_toArray, List.getElem?_cons_zero] at g0
                                      have kb := lt_of KX6
                                      go_simp
                                      refine hK.out _ _ (fun h => by cases h) ?_
                                      clear hK K
                                      try simp only [Act.put, List.setIfInBounds_toArray, List.set_cons_zero, List.set_cons_succ]
                                      refine wpAnyL_done (by kernel_rfl) ?_ _
                                      go_wp2_with fail
                                      go_meet
                                      case rel =>
                                        rw [HZ0.out, ← HWA.out]
                                        have hS := set_in KX6 0 (.slice aa6 (LA.length + LB.length) cc6)
                                        simp only [List.setIfInBounds_toArray, List.set_cons_zero] at hS
                                        have H9 := HNX6.wide (ok' := fun k => k ≠ bb) (fun k hk hl => by omega)
                                        have H8 := H9.keep (w' := X6.setCell ⟨bb, 0, none⟩ (.slice aa6 (LA.length + LB.length) cc6)) (by rw [size_set]; exact Nat.le_refl _) (fun k hk _ => Below.heap_setCell _ _ _ _ hk)
                                        exact ⟨bb, aa6, (LA.length + LB.length), cc6, rfl, hS, H8, BX6.setCell (p := ⟨bb, 0, none⟩) (by show WA.heap.size ≤ bb; omega) _⟩
                          · as_aux_lemma =>
                              go_simp
                              obtain ⟨bb, hbb⟩ : ∃ bb, bb = X1.heap.size := ⟨_, rfl⟩
                              have BT : Below WA.heap.size WA (X1.alloc (.cells #[.slice none 0 0] 25 (0, 0))) := BX1.alloc yX1 _
                              have KT : (X1.alloc (.cells #[.slice none 0 0] 25 (0, 0))).heap[bb]? = some (.cells #[.slice none 0 0] 25 (0, 0)) := by rw [hbb]; exact heap_new _ _
                              have bT : Below X1.heap.size X1 (X1.alloc (.cells #[.slice none 0 0] 25 (0, 0))) := (Below.refl _ _).alloc (Nat.le_refl _) _
                              have zT : (X1.alloc (.cells #[.slice none 0 0] 25 (0, 0))).heap.size = bb + 1 := by rw [hbb]; simp
                              rw [← hbb]
                              generalize X1.alloc (.cells #[.slice none 0 0] 25 (0, 0)) = X7 at BT KT bT zT ⊢
                              have BX7 := BT
                              have yX7 := BX7.size
                              have KX7 := KT
                              have O1X7 := O1X1.under bT
                              have c5X7 := (BX7.cell (p := ⟨w1.heap.size, 0, none⟩) (by show w1.heap.size < _; omega)).trans c5
                              have c7X7 := (BX7.cell (p := ⟨w2.heap.size, 0, none⟩) (by show w2.heap.size < _; omega)).trans c7
                              refine hK.out _ _ (fun _ => And.intro c5X7 c7X7) ?_
                              clear hK K
                              try simp only [Act.put, List.setIfInBounds_toArray, List.set_cons_zero, List.set_cons_succ]
                              have hb1 : X1.heap.size ≤ bb := by omega
                              have hb2 : bb ≤ X1.heap.size := by omega
                              have hb3 : bb < X7.heap.size := by omega
                              clear BT KT bT hbb zT
                              refine wpAnyL_one (i := 4) (o := { dst := some 86, op := Op.call { callee := Callee.value (Operand.func 7), args := #[Operand.tmp 85], argTypes := #[25] }, type := 25, pos := "law02.go:61", after := #[{ on := 3, ground := Ground.data }, { on := 1, ground := Ground.chain }], guard := none }) rfl (by kernel_rfl) (by rfl) (fun K hK => ?_)
                              go_simp
                              refine (copyProgram_own (N2A.under BX7) FB.out).mono ?_
                              rintro r X8 ⟨d8, f8, g8, rfl, D8, ow8, hd8, bT⟩
                              have O2X8 := own_copy ow8 hd8
                              clear ow8 hd8
                              obtain ⟨_, _, he8, _, _⟩ := O2X8.form
                              obtain rfl : f8 = LB.length := by injection he8
                              clear he8
                              have BX8 := BX7.trans (bT.mono yX7)
                              have yX8 := BX8.size
                              have sX8 := bT.size
                              have KX8 := (aside bT (S := [])).keep KX7 (lt_of KX7) (by simp)
                              have O1X8 := O1X7.under bT
                              have c5X8 := (BX8.cell (p := ⟨w1.heap.size, 0, none⟩) (by show w1.heap.size < _; omega)).trans c5
                              have c7X8 := (BX8.cell (p := ⟨w2.heap.size, 0, none⟩) (by show w2.heap.size < _; omega)).trans c7
                              refine hK.out _ _ (fun _ => And.intro c5X8 c7X8) ?_
                              clear hK K
                              try simp only [Act.put, List.setIfInBounds_toArray, List.set_cons_zero, List.set_cons_succ]
                              clear bT
                              refine' wpAnyL_take (i := 5) (oi := { dst := some 87, op := Op.field 25 (Operand.tmp 86) 0, type := 23, pos := "law02.go:61", after := #[{ on := 4, ground := Ground.data }], guard := none }) (v := _) rfl (by kernel_rfl) (by kernel_rfl) (by kernel_rfl) (by kernel_rfl) (fun _ _ _ h => h) (And.intro c5X8 c7X8) (by rfl) ?hyv ?onw
                              case hyv =>
                                intro wz hSw
                                obtain ⟨k0, k1⟩ := hSw
                                go_simp
                                try rfl
                              case onw =>
                                try simp only [Act.put, List.setIfInBounds_toArray, List.set_cons_zero, List.set_cons_succ]
                                refine wpAnyL_one (i := 6) (o := { dst := some 88, op := Op.call { callee := Callee.builtin Builtin.append, args := #[Operand.tmp 84, Operand.tmp 87], argTypes := #[23, 23] }, type := 23, pos := "law02.go:61", after := #[{ on := 2, ground := Ground.data }, { on := 5, ground := Ground.data }, { on := 4, ground := Ground.chain }], guard := none }) rfl (by kernel_rfl) (by rfl) (fun K hK => ?_)
                                have hap : ∀ k, (Value.slice d1 LA.length g1).ownBlock = some k → ¬ (X7.heap.size ≤ k ∧ k < X8.heap.size) := fun k hk h => by have h9 := (O1X8.lt k hk).1; have h8 : WA.heap.size ≤ k ∧ k < X1.heap.size := h9; omega
                                refine oper_joinX kNode _ _ 23 rfl Tryd.underlying23 (by rfl) (by rfl) O1X8 O2X8.row hneB hap (by show _ * 144 ≤ _; omega) (by unfold maxLen; omega) ?_
                                intro v9 X9 HNX9 gr
                                have lo := O1X8.lt
                                have BX9 : Below WA.heap.size WA X9 := BX8.grown gr yX8 (fun k hk => by have h9 := (lo k hk).1; have h8 : WA.heap.size ≤ k ∧ k < X1.heap.size := h9; omega)
                                have yX9 := BX9.size
                                have sg := gr.size
                                have KX9 := (gr.block bb (lt_of KX8) (fun e => by have h9 := (lo bb e.symm).1; have h8 : WA.heap.size ≤ bb ∧ bb < X1.heap.size := h9; have h7 := lt_of KX8; omega)).trans KX8
                                have kk := lt_of KX8
                                obtain ⟨aa9, cc9, hv9, kc9, mc9⟩ := HNX9.form
                                rw [List.length_append] at hv9
                                subst hv9
                                clear hap gr lo
                                have c5X9 := (BX9.cell (p := ⟨w1.heap.size, 0, none⟩) (by show w1.heap.size < _; omega)).trans c5
                                have c7X9 := (BX9.cell (p := ⟨w2.heap.size, 0, none⟩) (by show w2.heap.size < _; omega)).trans c7
                                refine hK.out _ _ (fun _ => And.intro c5X9 c7X9) ?_
                                clear hK K
                                try simp only [Act.put, List.setIfInBounds_toArray, List.set_cons_zero, List.set_cons_succ]
                                refine' wpAnyL_take (i := 7) (oi := { dst := some 89, op := Op.build 25 #[(0, Operand.tmp 88)], type := 25, pos := "law02.go:61", after := #[{ on := 6, ground := Ground.data }], guard := none }) (v := _) rfl (by kernel_rfl) (by kernel_rfl) (by kernel_rfl) (by kernel_rfl) (fun _ _ _ h => h) (And.intro c5X9 c7X9) (by rfl) ?hyv ?onw
                                case hyv =>
                                  intro wz hSw
                                  obtain ⟨k0, k1⟩ := hSw
                                  go_simp
                                  try rfl
                                case onw =>
                                  try simp only [Act.put, List.setIfInBounds_toArray, List.set_cons_zero, List.set_cons_succ]
                                  refine wpAnyL_one (i := 9) (o := { dst := none, op := Op.store 25 (Operand.tmp 13) (Operand.tmp 89), type := 0, pos := "law02.go:61", after := #[{ on := 8, ground := Ground.data }, { on := 7, ground := Ground.data }, { on := 6, ground := Ground.chain }, { on := 0, ground := Ground.phase }, { on := 1, ground := Ground.phase }, { on := 2, ground := Ground.phase }, { on := 3, ground := Ground.phase }, { on := 4, ground := Ground.phase }, { on := 5, ground := Ground.phase }, { on := 6, ground := Ground.phase }, { on := 7, ground := Ground.phase }, { on := 8, ground := Ground.phase }], guard := none }) rfl (by kernel_rfl) (by rfl) (fun K hK => ?_)
                                  have f0 := fun o => free_of KX9 o
                                  have g0 := cell_of KX9 0
                                  simp only [List.getElem?_toArray, List.getElem?_cons_zero] at g0
                                  have kb := lt_of KX9
                                  go_simp
                                  refine hK.out _ _ (fun h => by cases h) ?_
                                  clear hK K
                                  try simp only [Act.put, List.setIfInBounds_toArray, List.set_cons_zero, List.set_cons_succ]
                                  refine wpAnyL_done (by kernel_rfl) ?_ _
                                  go_wp2_with fail
                                  go_meet
                                  case rel =>
                                    rw [HZ0.out, ← HWA.out]
                                    have hS := set_in KX9 0 (.slice aa9 (LA.length + LB.length) cc9)
                                    simp only [List.setIfInBounds_toArray, List.set_cons_zero] at hS
                                    have H9 := HNX9.wide (ok' := fun k => k ≠ bb) (fun k hk hl => by omega)
                                    have H8 := H9.keep (w' := X9.setCell ⟨bb, 0, none⟩ (.slice aa9 (LA.length + LB.length) cc9)) (by rw [size_set]; exact Nat.le_refl _) (fun k hk _ => Below.heap_setCell _ _ _ _ hk)
                                    exact ⟨bb, aa9, (LA.length + LB.length), cc9, rfl, hS, H8, BX9.setCell (p := ⟨bb, 0, none⟩) (by show WA.heap.size ≤ bb; omega) _⟩
                    · as_aux_lemma =>
                        go_simp
                        obtain ⟨bb, hbb⟩ : ∃ bb, bb = WA.heap.size := ⟨_, rfl⟩
                        have BT : Below WA.heap.size WA (WA.alloc (.cells #[.slice none 0 0] 25 (0, 0))) := BWA.alloc yWA _
                        have KT : (WA.alloc (.cells #[.slice none 0 0] 25 (0, 0))).heap[bb]? = some (.cells #[.slice none 0 0] 25 (0, 0)) := by rw [hbb]; exact heap_new _ _
                        have bT : Below WA.heap.size WA (WA.alloc (.cells #[.slice none 0 0] 25 (0, 0))) := (Below.refl _ _).alloc (Nat.le_refl _) _
                        have zT : (WA.alloc (.cells #[.slice none 0 0] 25 (0, 0))).heap.size = bb + 1 := by rw [hbb]; simp
                        rw [← hbb]
                        generalize WA.alloc (.cells #[.slice none 0 0] 25 (0, 0)) = X10 at BT KT bT zT ⊢
                        have BX10 := BT
                        have yX10 := BX10.size
                        have KX10 := KT
                        have c5X10 := (BX10.cell (p := ⟨w1.heap.size, 0, none⟩) (by show w1.heap.size < _; omega)).trans c5
                        have c7X10 := (BX10.cell (p := ⟨w2.heap.size, 0, none⟩) (by show w2.heap.size < _; omega)).trans c7
                        refine hK.out _ _ (fun _ => And.intro c5X10 c7X10) ?_
                        clear hK K
                        try simp only [Act.put, List.setIfInBounds_toArray, List.set_cons_zero, List.set_cons_succ]
                        have hb1 : WA.heap.size ≤ bb := by omega
                        have hb2 : bb ≤ WA.heap.size := by omega
                        have hb3 : bb < X10.heap.size := by omega
                        clear BT KT bT hbb zT
                        refine wpAnyL_one (i := 1) (o := { dst := some 83, op := Op.call { callee := Callee.value (Operand.func 7), args := #[Operand.tmp 82], argTypes := #[25] }, type := 25, pos := "law02.go:61", after := #[{ on := 0, ground := Ground.data }], guard := none }) rfl (by kernel_rfl) (by rfl) (fun K hK => ?_)
                        go_simp
                        refine (copyProgram_own (N1A.under BX10) FA.out).mono ?_
                        rintro r X11 ⟨d11, f11, g11, rfl, D11, ow11, hd11, bT⟩
                        have O1X11 := own_copy ow11 hd11
                        clear ow11 hd11
                        obtain ⟨_, _, he11, _, _⟩ := O1X11.form
                        obtain rfl : f11 = LA.length := by injection he11
                        clear he11
                        have BX11 := BX10.trans (bT.mono yX10)
                        have yX11 := BX11.size
                        have sX11 := bT.size
                        have KX11 := (aside bT (S := [])).keep KX10 (lt_of KX10) (by simp)
                        have c5X11 := (BX11.cell (p := ⟨w1.heap.size, 0, none⟩) (by show w1.heap.size < _; omega)).trans c5
                        have c7X11 := (BX11.cell (p := ⟨w2.heap.size, 0, none⟩) (by show w2.heap.size < _; omega)).trans c7
                        refine hK.out _ _ (fun _ => And.intro c5X11 c7X11) ?_
                        clear hK K
                        try simp only [Act.put, List.setIfInBounds_toArray, List.set_cons_zero, List.set_cons_succ]
                        clear bT
                        refine' wpAnyL_take (i := 2) (oi := { dst := some 84, op := Op.field 25 (Operand.tmp 83) 0, type := 23, pos := "law02.go:61", after := #[{ on := 1, ground := Ground.data }], guard := none }) (v := _) rfl (by kernel_rfl) (by kernel_rfl) (by kernel_rfl) (by kernel_rfl) (fun _ _ _ h => h) (And.intro c5X11 c7X11) (by rfl) ?hyv ?onw
                        case hyv =>
                          intro wz hSw
                          obtain ⟨k0, k1⟩ := hSw
                          go_simp
                          try rfl
                        case onw =>
                          try simp only [Act.put, List.setIfInBounds_toArray, List.set_cons_zero, List.set_cons_succ]
                          refine wpAnyL_one (i := 4) (o := { dst := some 86, op := Op.call { callee := Callee.value (Operand.func 7), args := #[Operand.tmp 85], argTypes := #[25] }, type := 25, pos := "law02.go:61", after := #[{ on := 3, ground := Ground.data }, { on := 1, ground := Ground.chain }], guard := none }) rfl (by kernel_rfl) (by rfl) (fun K hK => ?_)
                          go_simp
                          refine (copyProgram_own (N2A.under BX11) FB.out).mono ?_
                          rintro r X12 ⟨d12, f12, g12, rfl, D12, ow12, hd12, bT⟩
                          have O2X12 := own_copy ow12 hd12
                          clear ow12 hd12
                          obtain ⟨_, _, he12, _, _⟩ := O2X12.form
                          obtain rfl : f12 = LB.length := by injection he12
                          clear he12
                          have BX12 := BX11.trans (bT.mono yX11)
                          have yX12 := BX12.size
                          have sX12 := bT.size
                          have KX12 := (aside bT (S := [])).keep KX11 (lt_of KX11) (by simp)
                          have O1X12 := O1X11.under bT
                          have c5X12 := (BX12.cell (p := ⟨w1.heap.size, 0, none⟩) (by show w1.heap.size < _; omega)).trans c5
                          have c7X12 := (BX12.cell (p := ⟨w2.heap.size, 0, none⟩) (by show w2.heap.size < _; omega)).trans c7
                          refine hK.out _ _ (fun _ => And.intro c5X12 c7X12) ?_
                          clear hK K
                          try simp only [Act.put, List.setIfInBounds_toArray, List.set_cons_zero, List.set_cons_succ]
                          clear bT
                          refine' wpAnyL_take (i := 5) (oi := { dst := some 87, op := Op.field 25 (Operand.tmp 86) 0, type := 23, pos := "law02.go:61", after := #[{ on := 4, ground := Ground.data }], guard := none }) (v := _) rfl (by kernel_rfl) (by kernel_rfl) (by kernel_rfl) (by kernel_rfl) (fun _ _ _ h => h) (And.intro c5X12 c7X12) (by rfl) ?hyv ?onw
                          case hyv =>
                            intro wz hSw
                            obtain ⟨k0, k1⟩ := hSw
                            go_simp
                            try rfl
                          case onw =>
                            try simp only [Act.put, List.setIfInBounds_toArray, List.set_cons_zero, List.set_cons_succ]
                            refine wpAnyL_one (i := 6) (o := { dst := some 88, op := Op.call { callee := Callee.builtin Builtin.append, args := #[Operand.tmp 84, Operand.tmp 87], argTypes := #[23, 23] }, type := 23, pos := "law02.go:61", after := #[{ on := 2, ground := Ground.data }, { on := 5, ground := Ground.data }, { on := 4, ground := Ground.chain }], guard := none }) rfl (by kernel_rfl) (by rfl) (fun K hK => ?_)
                            have hap : ∀ k, (Value.slice d11 LA.length g11).ownBlock = some k → ¬ (X11.heap.size ≤ k ∧ k < X12.heap.size) := fun k hk h => by have h9 := (O1X12.lt k hk).1; have h8 : X10.heap.size ≤ k ∧ k < X11.heap.size := h9; omega
                            refine oper_joinX kNode _ _ 23 rfl Tryd.underlying23 (by rfl) (by rfl) O1X12 O2X12.row hneB hap (by show _ * 144 ≤ _; omega) (by unfold maxLen; omega) ?_
                            intro v13 X13 HNX13 gr
                            have lo := O1X12.lt
                            have BX13 : Below WA.heap.size WA X13 := BX12.grown gr yX12 (fun k hk => by have h9 := (lo k hk).1; have h8 : X10.heap.size ≤ k ∧ k < X11.heap.size := h9; omega)
                            have yX13 := BX13.size
                            have sg := gr.size
                            have KX13 := (gr.block bb (lt_of KX12) (fun e => by have h9 := (lo bb e.symm).1; have h8 : X10.heap.size ≤ bb ∧ bb < X11.heap.size := h9; have h7 := lt_of KX12; omega)).trans KX12
                            have kk := lt_of KX12
                            obtain ⟨aa13, cc13, hv9, kc13, mc13⟩ := HNX13.form
                            rw [List.length_append] at hv9
                            subst hv9
                            clear hap gr lo
                            have c5X13 := (BX13.cell (p := ⟨w1.heap.size, 0, none⟩) (by show w1.heap.size < _; omega)).trans c5
                            have c7X13 := (BX13.cell (p := ⟨w2.heap.size, 0, none⟩) (by show w2.heap.size < _; omega)).trans c7
                            refine hK.out _ _ (fun _ => And.intro c5X13 c7X13) ?_
                            clear hK K
                            try simp only [Act.put, List.setIfInBounds_toArray, List.set_cons_zero, List.set_cons_succ]
                            refine' wpAnyL_take (i := 7) (oi := { dst := some 89, op := Op.build 25 #[(0, Operand.tmp 88)], type := 25, pos := "law02.go:61", after := #[{ on := 6, ground := Ground.data }], guard := none }) (v := _) rfl (by kernel_rfl) (by kernel_rfl) (by kernel_rfl) (by kernel_rfl) (fun _ _ _ h => h) (And.intro c5X13 c7X13) (by rfl) ?hyv ?onw
                            case hyv =>
                              intro wz hSw
                              obtain ⟨k0, k1⟩ := hSw
                              go_simp
                              try rfl
                            case onw =>
                              try simp only [Act.put, List.setIfInBounds_toArray, List.set_cons_zero, List.set_cons_succ]
                              refine wpAnyL_one (i := 9) (o := { dst := none, op := Op.store 25 (Operand.tmp 13) (Operand.tmp 89), type := 0, pos := "law02.go:61", after := #[{ on := 8, ground := Ground.data }, { on := 7, ground := Ground.data }, { on := 6, ground := Ground.chain }, { on := 0, ground := Ground.phase }, { on := 1, ground := Ground.phase }, { on := 2, ground := Ground.phase }, { on := 3, ground := Ground.phase }, { on := 4, ground := Ground.phase }, { on := 5, ground := Ground.phase }, { on := 6, ground := Ground.phase }, { on := 7, ground := Ground.phase }, { on := 8, ground := Ground.phase }], guard := none }) rfl (by kernel_rfl) (by rfl) (fun K hK => ?_)
                              have f0 := fun o => free_of KX13 o
                              have g0 := cell_of KX13 0
                              simp only [List.getElem?_toArray, List.getElem?_cons_zero] at g0
                              have kb := lt_of KX13
                              go_simp
                              refine hK.out _ _ (fun h => by cases h) ?_
                              clear hK K
                              try simp only [Act.put, List.setIfInBounds_toArray, List.set_cons_zero, List.set_cons_succ]
                              refine wpAnyL_done (by kernel_rfl) ?_ _
                              go_wp2_with fail
                              go_meet
                              case rel =>
                                rw [HZ0.out, ← HWA.out]
                                have hS := set_in KX13 0 (.slice aa13 (LA.length + LB.length) cc13)
                                simp only [List.setIfInBounds_toArray, List.set_cons_zero] at hS
                                have H9 := HNX13.wide (ok' := fun k => k ≠ bb) (fun k hk hl => by omega)
                                have H8 := H9.keep (w' := X13.setCell ⟨bb, 0, none⟩ (.slice aa13 (LA.length + LB.length) cc13)) (by rw [size_set]; exact Nat.le_refl _) (fun k hk _ => Below.heap_setCell _ _ _ _ hk)
                                exact ⟨bb, aa13, (LA.length + LB.length), cc13, rfl, hS, H8, BX13.setCell (p := ⟨bb, 0, none⟩) (by show WA.heap.size ≤ bb; omega) _⟩
              case rest =>
                obtain ⟨bb, a4, n4, c4, rfl, KB, HB4, BX⟩ := hcut
                have zx := BX.size
                have zx : w3.heap.size + 1 + 1 ≤ wc.heap.size := by
                  have h9 : ((w3.alloc (.cells #[.slice a3 LC.length c3] 25 (0, 0))).alloc (.cells #[.int .i64 0, .int .i64 0] 27 (0, 0))).heap.size ≤ wc.heap.size := zx
                  simp at h9
                  exact h9
                have BY : Below w3.heap.size w3 wc := (((Below.refl w3.heap.size w3).alloc (Nat.le_refl _) (.cells #[.slice a3 LC.length c3] 25 (0, 0))).alloc (by simp) (.cells #[.int .i64 0, .int .i64 0] 27 (0, 0))).drew.trans (BX.mono (by simp; omega))
                have N3 := hN3.under BY
                have N2 := N2'.under BY
                have U9 := (BX.block w3.heap.size (by simp; omega)).trans (keep_alloc (heap_new w3 (.cells #[.slice a3 LC.length c3] 25 (0, 0))) (.cells #[.int .i64 0, .int .i64 0] 27 (0, 0)))
                have U10 := heap_new (w3.alloc (.cells #[.slice a3 LC.length c3] 25 (0, 0))) (.cells #[.int .i64 0, .int .i64 0] 27 (0, 0))
                rw [show (w3.alloc (.cells #[.slice a3 LC.length c3] 25 (0, 0))).heap.size = w3.heap.size + 1 by simp] at U10
                have U10 := (BX.block (w3.heap.size + 1) (by simp)).trans U10
                have s9 := cell_of U9 0
                have s10 := cell_of U10 0
                have s13 := cell_of KB 0
                have s5 := (BY.cell (p := ⟨w1.heap.size, 0, none⟩) x5).trans P5
                have s7 := (BY.cell (p := ⟨w2.heap.size, 0, none⟩) x7).trans P7
                simp only [List.getElem?_toArray, List.getElem?_cons_zero] at s9 s10 s13
                have hLC : LC.length = LA.length + LB.length := by rw [HL.out]; simp
                obtain ⟨_, _, hv3, _, _, at3⟩ := N3.at
                obtain ⟨b3, o3, y3n, ha3, hb3, hy3, hq3⟩ := at3 LA.length (by omega)
                injection hv3 with hv3 hx3 hz3
                clear hx3 hz3
                rw [ha3] at hv3
                subst hv3
                obtain ⟨_, _, hv2, _, _, at2⟩ := N2.at
                obtain ⟨b2, o2, y2n, ha2, hb2, hy2, hq2⟩ := at2 0 hnl
                injection hv2 with hv2 hx2 hz2
                clear hx2 hz2
                rw [ha2] at hv2
                subst hv2
                have hp2 := hq2.place
                have hp3 := hq3.place
                have hp0 := HP0.out trivial hnl
                have hpl : (LC[LA.length]'(by omega)).place = (LB[0]).place + ((a.size + 1 : Nat) : Int) := by
                  simp only [HL.out]
                  rw [List.getElem_append_right (Nat.le_refl _)]
                  simp [Nd.sh]
                rw [hpl] at hp3
                obtain ⟨pl, hpe⟩ : ∃ pl, pl = (LB[0]).place := ⟨_, rfl⟩
                rw [← hpe] at hp2 hp3 hp0
                have t2 := hy2.2.1
                have t3 := hy3.2.1
                rw [hp2] at t2
                rw [hp3] at t3
                rw [show pl + ((a.size + 1 : Nat) : Int) = pl + (a.size : Int) + 1 by omega] at t3
                have p0 : 0 ≤ pl := hp0.1
                have p1 : pl ≤ (b.size : Int) := hp0.2
                have B4 : Below w.heap.size w wc := BW.drew.trans (BX.mono (by simp; omega))
                have y4 := B4.size
                have HS : Hid (eqL neq LC (LA ++ LB) = true) := by
                  show eqL neq LC (LA ++ LB) = true
                  rw [HL.out]
                  exact same_joined _ _ _
                rw [hLC] at N3 s9
                have l13 := lt_of KB
                clear at2 at3 hq2 hq3 hy2 hy3 hpl hpe hp0 U9 U10 hp2 hp3
                go_wp2_with fail
                have Bd : Below wc.heap.size wc wc.drew := (Below.refl _ wc).drew
                have N3d := N3.under Bd
                have HB4d := HB4.under Bd
                have ix1 : LA.length < LA.length + LB.length := by omega
                have ix2 : (LA.length : Int) < (LA.length : Int) + (LB.length : Int) := by omega
                have ix3 : ¬ LB.length = 0 := by omega
                have wr1 : IntKind.i64.wrap (pl + (a.size : Int)) = pl + (a.size : Int) := by simp [IntKind.wrap, IntKind.signed, IntKind.bits]; omega
                have wr2 : IntKind.i64.wrap (pl + (a.size : Int) + 1) = pl + (a.size : Int) + 1 := by simp [IntKind.wrap, IntKind.signed, IntKind.bits]; omega
                go_region_held3 (fun w' => w'.cell? ⟨w3.heap.size + 1, 0, none⟩ = some (.int .i64 0) ∧ w'.cell? ⟨w3.heap.size, 0, none⟩ = some (.slice (some ⟨b3, o3, none⟩) (LA.length + LB.length) c3) ∧ w'.cell? ⟨bb, 0, none⟩ = some (.slice a4 n4 c4) ∧ w'.cell? ⟨w1.heap.size, 0, none⟩ = some (.slice a1 LA.length c1) ∧ w'.cell? ⟨w2.heap.size, 0, none⟩ = some (.slice (some ⟨b2, o2, none⟩) LB.length c2) ∧ w'.cell? ⟨b3, o3 + LA.length * 7 + 1, none⟩ = some (.int .i64 (pl + (a.size : Int) + 1)) ∧ w'.cell? ⟨b2, o2 + 0 * 7 + 1, none⟩ = some (.int .i64 pl)) (first | go_keep | exact ⟨by assumption, by assumption, by assumption, by assumption, by assumption, by assumption, by assumption⟩)
                  (first
                    | (go_at_call 8; refine (same_any N3d HB4d).mono ?_; rintro e w5 ⟨rfl, b5⟩; rw [HS.out]; have v1 := (b5.cell (p := ⟨w3.heap.size + 1, 0, none⟩) (by show w3.heap.size + 1 < wc.heap.size; omega)).trans s10; have v2 := (b5.cell (p := ⟨w3.heap.size, 0, none⟩) (by show w3.heap.size < wc.heap.size; omega)).trans s9; have v3 := (b5.cell (p := ⟨bb, 0, none⟩) (by show bb < wc.heap.size; omega)).trans s13; have v4 := (b5.cell (p := ⟨w1.heap.size, 0, none⟩) (by show w1.heap.size < wc.heap.size; omega)).trans s5; have v5 := (b5.cell (p := ⟨w2.heap.size, 0, none⟩) (by show w2.heap.size < wc.heap.size; omega)).trans s7; have v6 := (b5.cell (p := ⟨b3, o3 + LA.length * 7 + 1, none⟩) hb3).trans t3; have v7 := (b5.cell (p := ⟨b2, o2 + 0 * 7 + 1, none⟩) hb2).trans t2; have B5 := B4.drew.trans (b5.mono y4)))
                go_wp2
                go_ret
                exact ⟨rfl, B5⟩
          · have hBb : (cB == 0) = false := beq_eq_false_iff_ne.2 hB0
            subst hA0
            clear HJ HW
            go_wp2
            go_ret
            exact ⟨rfl, BW⟩
        · have hAb : (cA == 0) = false := beq_eq_false_iff_ne.2 hA0
          clear HJ HW
          go_wp2
          go_ret
          exact ⟨rfl, BW⟩
end Go.Proofs.YtmgaeapckfdbpaaDoor
