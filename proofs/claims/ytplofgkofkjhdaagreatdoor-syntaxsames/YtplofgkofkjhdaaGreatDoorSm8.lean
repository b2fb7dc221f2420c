/-
  DERIVED. THE WALK of the document's comparison of two slices of expressions.
-/
import Derived.Test.YtplofgkofkjhdaaGreatDoorSm5
namespace Go.Proofs.YtplofgkofkjhdaaGreatDoor
open Go.RowKit Go.IntWalk
set_option linter.unusedVariables false
set_option linter.unusedSimpArgs false
set_option maxRecDepth 100000

set_option maxHeartbeats 16000000 in
theorem refExprs_step (q : Nat) (HL : ComparesR q) {ok ok' : Nat → Prop} {w : World} {v u : Value} {l r : List Ex} (hqq : partsL l < q + 1) (hl : HExs ok w v l) (hr : HExs ok' w u r) :
    Calls Tryz.prog 22 #[v, u] w fun e w' => e = .returned (.bool (eqL xeq l r)) ∧ ∃ m, w' = w.drewN m := by
  obtain ⟨ao, cap, rfl, hc1, hc2, hat⟩ := hl.at
  obtain ⟨ao', cap', rfl, hd1, hd2, hat'⟩ := hr.at
  unfold maxLen at hc2 hd2
  have HQ := hide hqq
  clear hqq
  obtain ⟨R, hR⟩ : ∃ R, R = eqL xeq l r := ⟨_, rfl⟩
  rw [← hR]
  have HR := hide hR
  clear hR hl hr
  obtain ⟨n, hn⟩ : ∃ n, n = l.length := ⟨_, rfl⟩
  obtain ⟨m, hm⟩ : ∃ m, m = r.length := ⟨_, rfl⟩
  rw [← hn] at hc1 ⊢
  rw [← hm] at hd1 ⊢
  have HN := hide hn
  have HM := hide hm
  by_cases hlen : n = m
  · subst hlen
    have hq : ((n : Int) != (n : Int)) = false := by simp
    clear hn hm
    go_enter Tryz.func22, Tryz.ntmps22
    go_wp2
    go_loopg [5] n (fun k v wr => ∃ i d, i ≤ n ∧ k = n - i ∧ v = .int .i64 (i : Nat) ∧ Hid (∀ j (h : j < l.length) (h' : j < r.length), j < i → xeq l[j] r[j] = true) ∧ wr = w.drewN d)
    case atStart => exact ⟨0, 0, Nat.zero_le _, rfl, rfl, fun j _ _ h => absurd h (Nat.not_lt_zero _), rfl⟩
    case round =>
      obtain ⟨i, d, hi, rfl, rfl, H, hW⟩ := hrel
      have HW := hide hW
      clear hW
      by_cases hlt : i < n
      · have hil : i < l.length := by have := HN.out; omega
        have hir : i < r.length := by have := HM.out; omega
        obtain ⟨b, o, x, rfl, _, hb, hxa, hx⟩ := hat i hil
        obtain ⟨b', o', y, rfl, _, hb', hya, hy⟩ := hat' i hir
        obtain ⟨c0, c1, c2, c3, c4, c5⟩ := hxa.keep (w' := wr) (by rw [HW.out]; rfl)
        obtain ⟨d0, d1, d2, d3, d4, d5⟩ := hya.keep (w' := wr) (by rw [HW.out]; rfl)
        obtain ⟨x1, x2, x3, x4, xS, xL⟩ := hx.parts
        obtain ⟨y1, y2, y3, y4, yS, yL⟩ := hy.parts
        rw [x1] at c0
        rw [x2] at c1
        rw [x3] at c2
        rw [x4] at c3
        rw [y1] at d0
        rw [y2] at d1
        rw [y3] at d2
        rw [y4] at d3
        obtain ⟨p, hp⟩ : ∃ p, p = l[i] := ⟨_, rfl⟩
        obtain ⟨s, hs⟩ : ∃ s, s = r[i] := ⟨_, rfl⟩
        have hqi : parts l[i] < q + 1 := Nat.lt_of_le_of_lt (parts_mem l i hil) HQ.out
        rw [← hp] at c0 c1 c2 c3 xS xL hqi
        rw [← hs] at d0 d1 d2 d3 yS yL
        have HX := hide hp
        have HY := hide hs
        clear hxa hya hx hy x1 x2 x3 x4 y1 y2 y3 y4 hp hs
        obtain ⟨ao, ak, an, am, aS, aL⟩ := p
        obtain ⟨bo, bk, bn, bs, bS, bL⟩ := s
        simp only [Ex.op, Ex.k, Ex.n, Ex.name, Ex.S, Ex.L] at c0 c1 c2 c3 d0 d1 d2 d3 xS xL yS yL
        have hqL : partsL aL < q := by rw [parts] at hqi; omega
        have callS := fun z => refSizes_any (w := wr.drewN z) (xS.under (drewN2 HW.out z)) (yS.under (drewN2 HW.out z))
        have callL := fun z => HL _ _ (wr.drewN z) _ _ _ _ hqL (xL.under (drewN2 HW.out z)) (yL.under (drewN2 HW.out z))
        clear xS xL yS yL hqi hqL
        clear hat hat'
        cases h0 : (ao == bo)
        ·
          have hbad : xeq l[i] r[i] = false := by rw [← HX.out, ← HY.out]; simp [xeq, seq, xeqs_eq, h0]
          have HBAD := hide hbad
          clear hbad
          clear callS callL
          have k0 : (ao != bo) = true := by rw [bne, h0]; rfl
          as_aux_lemma =>
            go_wp2_with fail
            (simp only [List.append_eq, List.cons_append, List.nil_append]; go_quiet (first | (go_at_call 21; refine Calls.quiet_of (callS _)) | (go_at_call 22; refine Calls.quiet_of (callL _))))
            go_wp2
            go_ret
            refine ⟨ret_bool ?_, _, by rw [HW.out]; exact World.drewN_drewN _ _ _⟩
            rw [HR.out]
            exact (eqL_bad i hil hir HBAD.out).symm
        ·
          have k0 : (ao != bo) = false := by rw [bne, h0]; rfl
          cases h1 : (ak == bk)
          ·
            have hbad : xeq l[i] r[i] = false := by rw [← HX.out, ← HY.out]; simp [xeq, seq, xeqs_eq, h0, h1]
            have HBAD := hide hbad
            clear hbad
            clear callS callL
            have k1 : (ak != bk) = true := by rw [bne, h1]; rfl
            as_aux_lemma =>
              go_wp2_with fail
              (simp only [List.append_eq, List.cons_append, List.nil_append]; go_quiet (first | (go_at_call 21; refine Calls.quiet_of (callS _)) | (go_at_call 22; refine Calls.quiet_of (callL _))))
              go_wp2
              go_ret
              refine ⟨ret_bool ?_, _, by rw [HW.out]; exact World.drewN_drewN _ _ _⟩
              rw [HR.out]
              exact (eqL_bad i hil hir HBAD.out).symm
          ·
            have k1 : (ak != bk) = false := by rw [bne, h1]; rfl
            cases h2 : (am.toList == bs.toList)
            ·
              have hbad : xeq l[i] r[i] = false := by rw [← HX.out, ← HY.out]; simp [xeq, seq, xeqs_eq, h0, h1, h2]
              have HBAD := hide hbad
              clear hbad
              clear callS callL
              as_aux_lemma =>
                go_wp2_with fail
                (simp only [List.append_eq, List.cons_append, List.nil_append]; go_quiet (first | (go_at_call 21; refine Calls.quiet_of (callS _)) | (go_at_call 22; refine Calls.quiet_of (callL _))))
                go_wp2
                go_ret
                refine ⟨ret_bool ?_, _, by rw [HW.out]; exact World.drewN_drewN _ _ _⟩
                rw [HR.out]
                exact (eqL_bad i hil hir HBAD.out).symm
            ·

              cases h3 : (an == bn)
              ·
                have hbad : xeq l[i] r[i] = false := by rw [← HX.out, ← HY.out]; simp [xeq, seq, xeqs_eq, h0, h1, h2, h3]
                have HBAD := hide hbad
                clear hbad
                clear callS callL
                have k3 : (an != bn) = true := by rw [bne, h3]; rfl
                as_aux_lemma =>
                  go_wp2_with fail
                  (simp only [List.append_eq, List.cons_append, List.nil_append]; go_quiet (first | (go_at_call 21; refine Calls.quiet_of (callS _)) | (go_at_call 22; refine Calls.quiet_of (callL _))))
                  go_wp2
                  go_ret
                  refine ⟨ret_bool ?_, _, by rw [HW.out]; exact World.drewN_drewN _ _ _⟩
                  rw [HR.out]
                  exact (eqL_bad i hil hir HBAD.out).symm
              ·
                have k3 : (an != bn) = false := by rw [bne, h3]; rfl
                cases h4 : eqL (eqL teq) aS bS
                ·
                  have hbad : xeq l[i] r[i] = false := by rw [← HX.out, ← HY.out]; simp [xeq, seq, xeqs_eq, h0, h1, h2, h3, h4]
                  have HBAD := hide hbad
                  clear hbad
                  rw [h4] at callS
                  clear callL
                  as_aux_lemma =>
                    go_wp2_with fail
                    (simp only [List.append_eq, List.cons_append, List.nil_append]; go_quiet (first | (go_at_call 21; refine Calls.quiet_of (callS _)) | (go_at_call 22; refine Calls.quiet_of (callL _))))
                    go_wp2
                    go_ret
                    refine ⟨ret_bool ?_, _, by rw [HW.out]; exact World.drewN_drewN _ _ _⟩
                    rw [HR.out]
                    exact (eqL_bad i hil hir HBAD.out).symm
                ·
                  rw [h4] at callS
                  cases h5 : eqL xeq aL bL
                  ·
                    have hbad : xeq l[i] r[i] = false := by rw [← HX.out, ← HY.out]; simp [xeq, seq, xeqs_eq, h0, h1, h2, h3, h4, h5]
                    have HBAD := hide hbad
                    clear hbad
                    rw [h5] at callL
                    as_aux_lemma =>
                      go_wp2_with fail
                      (simp only [List.append_eq, List.cons_append, List.nil_append]; go_quiet (first | (go_at_call 21; refine Calls.quiet_of (callS _)) | (go_at_call 22; refine Calls.quiet_of (callL _))))
                      go_wp2
                      go_ret
                      refine ⟨ret_bool ?_, _, by rw [HW.out]; exact World.drewN_drewN _ _ _⟩
                      rw [HR.out]
                      exact (eqL_bad i hil hir HBAD.out).symm
                  ·
                    rw [h5] at callL
                    have hall : xeq l[i] r[i] = true := by rw [← HX.out, ← HY.out]; simp [xeq, seq, xeqs_eq, h0, h1, h2, h3, h4, h5]
                    have HALL := hide hall
                    clear hall
                    as_aux_lemma =>
                      go_wp2_with fail
                      (simp only [List.append_eq, List.cons_append, List.nil_append]; go_quiet (first | (go_at_call 21; refine Calls.quiet_of (callS _)) | (go_at_call 22; refine Calls.quiet_of (callL _))))
                      go_wp2
                      go_roundg (n - (i + 1))
                      case measure => omega
                      case rel =>
                        refine ⟨i + 1, _, by omega, rfl, by go_num, fun j hj hj' hji => ?_, by rw [HW.out]; exact World.drewN_drewN _ _ _⟩
                        by_cases e : j = i
                        · subst e
                          exact HALL.out
                        · exact H.out j hj hj' (by omega)

      · have hie : i = n := by omega
        subst hie
        clear hat hat'
        go_wp2
        go_ret
        refine ⟨ret_bool ?_, _, HW.out⟩
        rw [HR.out]
        exact (eqL_all (by rw [← HN.out, ← HM.out]) (fun j hj hj' => H.out j hj hj' (by rw [HN.out]; exact hj))).symm
  · have hq : ((n : Int) != (m : Int)) = true := by simp; omega
    clear hat hat' hn hm
    go_enter Tryz.func22, Tryz.ntmps22
    go_wp2
    go_ret
    refine ⟨ret_bool ?_, 0, rfl⟩
    rw [HR.out]
    exact (eqL_len (by rw [← HN.out, ← HM.out]; exact hlen)).symm

theorem comparesR : ∀ q, ComparesR q
  | 0 => fun ok ok' w v u l r hq hl hr => absurd hq (Nat.not_lt_zero _)
  | q + 1 => fun ok ok' w v u l r hq hl hr => refExprs_step q (comparesR q) hq hl hr

theorem refExprs_any {ok ok' : Nat → Prop} {w : World} {v u : Value} {l r : List Ex} (hl : HExs ok w v l) (hr : HExs ok' w u r) :
    Calls Tryz.prog 22 #[v, u] w fun e w' => e = .returned (.bool (eqL xeq l r)) ∧ ∃ m, w' = w.drewN m := comparesR (partsL l + 1) _ _ _ _ _ _ _ (Nat.lt_succ_self _) hl hr

end Go.Proofs.YtplofgkofkjhdaaGreatDoor
