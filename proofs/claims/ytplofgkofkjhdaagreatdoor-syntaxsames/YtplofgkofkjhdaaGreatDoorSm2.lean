/-
  DERIVED. THE WALKS of the comparisons of sizes.
-/
import Derived.Test.YtplofgkofkjhdaaGreatDoorSm1
import Derived.Deep.RegionWith
namespace Go.Proofs.YtplofgkofkjhdaaGreatDoor
open Go.RowKit Go.IntWalk
set_option linter.unusedVariables false
set_option linter.unusedSimpArgs false
set_option maxRecDepth 100000

theorem HSizes.at {ok : Nat → Prop} {w : World} {v : Value} {l : List (List Tm)} (h : HSizes ok w v l) :
    ∃ ao cap, v = .slice ao l.length cap ∧ l.length ≤ cap ∧ cap ≤ maxLen ∧ ∀ i (h : i < l.length), ∃ b o au nu cu, ao = some ⟨b, o, none⟩ ∧ b < w.heap.size ∧ w.cell? ⟨b, o + i, none⟩ = some (.slice au nu cu) ∧ HTerms ok w (.slice au nu cu) l[i] := by
  obtain ⟨C, ⟨ao, cap, hv, h1, h2, h3⟩, hC⟩ := h
  refine ⟨ao, cap, hv, h1, h2, fun i hi => ?_⟩
  obtain ⟨b, o, ha, hob, hb, hc⟩ := h3 (by omega)
  have := (hc i hi).2 0 (by decide)
  obtain ⟨u, hu, ht⟩ := hC i hi
  rw [hu] at this
  have ht0 := ht
  obtain ⟨_, ⟨au, cu, rfl, _⟩, _⟩ := ht0
  exact ⟨b, o, au, _, cu, ha, hb, by simpa using this, ht⟩
theorem HTerms.under {ok : Nat → Prop} {w w' : World} {v : Value} {l : List Tm} (h : HTerms ok w v l) (a : Below w.heap.size w w') : HTerms ok w' v l := h.keep a.size fun i _ hl => a.block i hl
theorem HSizes.under {ok : Nat → Prop} {w w' : World} {v : Value} {l : List (List Tm)} (h : HSizes ok w v l) (a : Below w.heap.size w w') : HSizes ok w' v l := h.keep a.size fun i _ hl => a.block i hl
theorem HNames.under {ok : Nat → Prop} {w w' : World} {v : Value} {l : List ByteArray} (h : HNames ok w v l) (a : Below w.heap.size w w') : HNames ok w' v l := h.keep a.size fun i _ hl => a.block i hl
theorem below_of_drew {B : Nat} {w w' : World} (h : Below B w.drew w') : Below B w w' := ⟨h.os, h.tape, h.output, h.size, h.block⟩

set_option maxHeartbeats 8000000 in
theorem equalSizes_any {ok ok' : Nat → Prop} {w : World} {v u : Value} {l r : List (List Tm)} (hl : HSizes ok w v l) (hr : HSizes ok' w u r) :
    Calls Tryz.prog 71 #[v, u, .func (.func 70) #[] #[]] w fun e w' => e = .returned (.bool (eqL (eqL teq) l r)) ∧ Below w.heap.size w w' := by
  obtain ⟨ao, cap, rfl, hc1, hc2, hat⟩ := hl.at
  obtain ⟨ao', cap', rfl, hd1, hd2, hat'⟩ := hr.at
  unfold maxLen at hc2 hd2
  obtain ⟨R, hR⟩ : ∃ R, R = eqL (eqL teq) l r := ⟨_, rfl⟩
  rw [← hR]
  have HR := hide hR
  clear hR hl hr
  obtain ⟨n, hn⟩ : ∃ n, n = l.length := ⟨_, rfl⟩
  obtain ⟨m, hm⟩ : ∃ m, m = r.length := ⟨_, rfl⟩
  rw [← hn] at hc1 ⊢
  rw [← hm] at hd1 ⊢
  have HN := hide hn
  have HM := hide hm
  by_cases hlen : n = m
  · subst hlen
    have hq : ((n : Int) != (n : Int)) = false := by simp
    clear hn hm
    go_enter Tryz.func71, Tryz.ntmps71
    go_wp2
    go_loopg [17] n (fun k v wr => ∃ i, i ≤ n ∧ k = n - i ∧ v = .int .i64 (i : Nat) ∧ Hid (∀ j (h : j < l.length) (h' : j < r.length), j < i → (eqL teq) l[j] r[j] = true) ∧ Below w.heap.size w wr)
    case atStart => exact ⟨0, Nat.zero_le _, rfl, rfl, fun j _ _ h => absurd h (Nat.not_lt_zero _), Below.refl _ _⟩
    case round =>
      obtain ⟨i, hi, rfl, rfl, H, hbr⟩ := hrel
      by_cases hlt : i < n
      · have hil : i < l.length := by have := HN.out; omega
        have hir : i < r.length := by have := HM.out; omega
        obtain ⟨b, o, au, nu, cu, rfl, hb, hc, ht⟩ := hat i hil
        obtain ⟨b', o', au', nu', cu', rfl, hb', hc', ht'⟩ := hat' i hir
        have e1 := (hbr.cell (p := ⟨b, o + i, none⟩) hb).trans hc
        have e2 := (hbr.cell (p := ⟨b', o' + i, none⟩) hb').trans hc'
        have g1 := ht.under hbr
        have g2 := ht'.under hbr
        clear hc hc' ht ht'
        clear hat hat'
        cases hxy : (eqL teq) l[i] r[i]
        ·
          go_wp2_with fail
          refine (sameSize_any g1 g2).mono ?_
          rintro e w1 ⟨rfl, b1⟩
          rw [hxy]
          all_goals
            have hb1 := hbr.trans (b1.mono hbr.size)
            go_wp2
            go_ret
            refine ⟨ret_bool ?_, hb1⟩
            rw [HR.out]
            exact (eqL_bad i hil hir hxy).symm
        ·
          go_wp2_with fail
          refine (sameSize_any g1 g2).mono ?_
          rintro e w1 ⟨rfl, b1⟩
          rw [hxy]
          all_goals
            have hb1 := hbr.trans (b1.mono hbr.size)
            go_wp2
            go_roundg (n - (i + 1))
            case measure => omega
            case rel =>
              refine ⟨i + 1, by omega, rfl, by go_num, fun j hj hj' hji => ?_, hb1⟩
              by_cases e : j = i
              · subst e
                exact hxy
              · exact H.out j hj hj' (by omega)
      · have hie : i = n := by omega
        subst hie
        clear hat hat'
        go_wp2
        go_ret
        refine ⟨ret_bool ?_, hbr⟩
        rw [HR.out]
        exact (eqL_all (by rw [← HN.out, ← HM.out]) (fun j hj hj' => H.out j hj hj' (by rw [HN.out]; exact hj))).symm
  · have hq : ((n : Int) != (m : Int)) = true := by simp; omega
    clear hat hat' hn hm
    go_enter Tryz.func71, Tryz.ntmps71
    go_wp2
    go_ret
    refine ⟨ret_bool ?_, Below.refl _ _⟩
    rw [HR.out]
    exact (eqL_len (by rw [← HN.out, ← HM.out]; exact hlen)).symm

set_option maxHeartbeats 8000000 in
theorem sameSizes_any {ok ok' : Nat → Prop} {w : World} {v u : Value} {l r : List (List Tm)} (hl : HSizes ok w v l) (hr : HSizes ok' w u r) :
    Calls Tryz.prog 21 #[v, u] w fun e w' => e = .returned (.bool (eqL (eqL teq) l r)) ∧ Below w.heap.size w w' := by
  obtain ⟨ao, cap, rfl, hc1, hc2, hat⟩ := hl.at
  obtain ⟨ao', cap', rfl, hd1, hd2, hat'⟩ := hr.at
  unfold maxLen at hc2 hd2
  obtain ⟨R, hR⟩ : ∃ R, R = eqL (eqL teq) l r := ⟨_, rfl⟩
  rw [← hR]
  have HR := hide hR
  clear hR hl hr
  obtain ⟨n, hn⟩ : ∃ n, n = l.length := ⟨_, rfl⟩
  obtain ⟨m, hm⟩ : ∃ m, m = r.length := ⟨_, rfl⟩
  rw [← hn] at hc1 ⊢
  rw [← hm] at hd1 ⊢
  have HN := hide hn
  have HM := hide hm
  by_cases hlen : n = m
  · subst hlen
    have hq : ((n : Int) != (n : Int)) = false := by simp
    clear hn hm
    go_enter Tryz.func21, Tryz.ntmps21
    go_wp2
    go_loopg [5] n (fun k v wr => ∃ i, i ≤ n ∧ k = n - i ∧ v = .int .i64 (i : Nat) ∧ Hid (∀ j (h : j < l.length) (h' : j < r.length), j < i → (eqL teq) l[j] r[j] = true) ∧ Below w.heap.size w wr)
    case atStart => exact ⟨0, Nat.zero_le _, rfl, rfl, fun j _ _ h => absurd h (Nat.not_lt_zero _), Below.refl _ _⟩
    case round =>
      obtain ⟨i, hi, rfl, rfl, H, hbr⟩ := hrel
      by_cases hlt : i < n
      · have hil : i < l.length := by have := HN.out; omega
        have hir : i < r.length := by have := HM.out; omega
        obtain ⟨b, o, au, nu, cu, rfl, hb, hc, ht⟩ := hat i hil
        obtain ⟨b', o', au', nu', cu', rfl, hb', hc', ht'⟩ := hat' i hir
        have e1 := (hbr.cell (p := ⟨b, o + i, none⟩) hb).trans hc
        have e2 := (hbr.cell (p := ⟨b', o' + i, none⟩) hb').trans hc'
        have g1 := ht.under hbr
        have g2 := ht'.under hbr
        clear hc hc' ht ht'
        clear hat hat'
        cases hxy : (eqL teq) l[i] r[i]
        ·
          go_wp2_with fail
          go_region_with (go_at_call 50; refine (sameTerms_any (w := wr.drew) (g1.under (Below.refl _ wr).drew) (g2.under (Below.refl _ wr).drew)).mono ?_; rintro e w1 ⟨rfl, b1⟩; rw [hxy])
          all_goals
            have hb1 := hbr.trans ((below_of_drew b1).mono hbr.size)
            go_wp2
            go_ret
            refine ⟨ret_bool ?_, hb1⟩
            rw [HR.out]
            exact (eqL_bad i hil hir hxy).symm
        ·
          go_wp2_with fail
          go_region_with (go_at_call 50; refine (sameTerms_any (w := wr.drew) (g1.under (Below.refl _ wr).drew) (g2.under (Below.refl _ wr).drew)).mono ?_; rintro e w1 ⟨rfl, b1⟩; rw [hxy])
          all_goals
            have hb1 := hbr.trans ((below_of_drew b1).mono hbr.size)
            go_wp2
            go_roundg (n - (i + 1))
            case measure => omega
            case rel =>
              refine ⟨i + 1, by omega, rfl, by go_num, fun j hj hj' hji => ?_, hb1⟩
              by_cases e : j = i
              · subst e
                exact hxy
              · exact H.out j hj hj' (by omega)
      · have hie : i = n := by omega
        subst hie
        clear hat hat'
        go_wp2
        go_ret
        refine ⟨ret_bool ?_, hbr⟩
        rw [HR.out]
        exact (eqL_all (by rw [← HN.out, ← HM.out]) (fun j hj hj' => H.out j hj hj' (by rw [HN.out]; exact hj))).symm
  · have hq : ((n : Int) != (m : Int)) = true := by simp; omega
    clear hat hat' hn hm
    go_enter Tryz.func21, Tryz.ntmps21
    go_wp2
    go_ret
    refine ⟨ret_bool ?_, Below.refl _ _⟩
    rw [HR.out]
    exact (eqL_len (by rw [← HN.out, ← HM.out]; exact hlen)).symm

end Go.Proofs.YtplofgkofkjhdaaGreatDoor
