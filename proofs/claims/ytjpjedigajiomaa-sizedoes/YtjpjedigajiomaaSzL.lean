/-
  DERIVED. THE WALK of the document's own Value.
-/
import Derived.Test.YtjpjedigajiomaaSzK
namespace Go.Proofs.Ytjpjedigajiomaa
open Go.Shelf Go.RowKit Go.Lib Go.IntWalk Go.Maps
set_option linter.unusedVariables false
set_option linter.unusedSimpArgs false
set_option maxRecDepth 100000

theorem tvT_none {names : List ByteArray} {L : List Int} {t : Te} (h : t.2 ≠ []) (hp : plc names L.length t.2 = none) : tvT names L t = (0, 9) := by
  unfold tvT; rw [if_neg h, hp]
theorem tvT_some {names : List ByteArray} {L : List Int} {t : Te} {q : Nat} (h : t.2 ≠ []) (hp : plc names L.length t.2 = some q) : tvT names L t = if small (L.getD q 0) = true then (t.1 * L.getD q 0, 0) else (0, 16) := by
  unfold tvT; rw [if_neg h, hp]

set_option maxHeartbeats 8000000 in
theorem refValue_any {ok okn okl : Nat → Prop} {w : World} {v vn vl : Value} {l : List Tm} {names : List ByteArray} {L : List Int} (hl : HTerms ok w v l) (hn : HNames okn w vn names) (hL : HInts okl w vl L) :
    Calls Try.prog 13 #[v, vn, vl] w fun e w' => ∃ x c a, e = .returned (.tuple #[.int .i64 x, .agg #[.int .i64 c, .int .i64 a]]) ∧ ValP l names L x c a ∧ Below w.heap.size w w' := by
  obtain ⟨w1, hw1⟩ : ∃ w1, w1 = w.alloc (.cells #[.int .i64 0, .int .i64 0] 30 (0, 0)) := ⟨_, rfl⟩
  have b1 : Below w.heap.size w w1 := by rw [hw1]; exact (Below.refl _ _).alloc (Nat.le_refl _) _
  have K_w1 : w1.heap[w.heap.size]? = some (.cells #[.int .i64 0, .int .i64 0] 30 (0, 0)) := by rw [hw1]; exact heap_new _ _
  have hnorm := refNorm_any (hl.keep (w' := w1) b1.size (fun i _ hl => b1.block i hl))
  obtain ⟨ao, cap, rfl, hc1, hc2, hat⟩ := hl.at
  obtain ⟨aL, cL, rfl, hL1, hL2, _⟩ := hL.at
  obtain ⟨an, cn, rfl, hn1, hn2, _⟩ := hn.at
  clear hat hl
  go_enter Try.func13, Try.ntmps13
  go_upto_region 1 with fail
  rw [← hw1]
  clear hw1
  go_wp2_with fail
  refine hnorm.mono ?_
  rintro e w2 ⟨u, c, a, rfl, hnp, b2⟩
  clear hnorm
  have K2 := (b2.block _ (lt_of K_w1)).trans K_w1
  have y1 := b1.size
  have B2 := b1.trans (b2.mono y1)
  have yk1 := lt_of K_w1
  clear b1 K_w1
  go_upto_region 2 with fail
  obtain ⟨w3, hw3⟩ : ∃ w3, w3 = w2.alloc (.cells #[.int .i64 c, .int .i64 a] 30 (0, 0)) := ⟨_, rfl⟩
  have b3 : Below w2.heap.size w2 w3 := by rw [hw3]; exact (Below.refl _ _).alloc (Nat.le_refl _) _
  have K_w3 : w3.heap[w2.heap.size]? = some (.cells #[.int .i64 c, .int .i64 a] 30 (0, 0)) := by rw [hw3]; exact heap_new _ _
  rw [← hw3]
  clear hw3
  have K3 := (b3.block _ (lt_of K2)).trans K2
  have y2 := B2.size
  have B3 := B2.trans (b3.mono y2)
  have d0 := cell_of K_w3 0
  have d1 := cell_of K_w3 1
  simp at d0 d1
  have k0 := cell_of K3 0
  have k1 := cell_of K3 1
  have fk := fun o => free_of K3 o
  simp at k0 k1
  rcases normP_cases hnp with ⟨hc0, hfp⟩ | ⟨rfl, rfl, hl1000, hsm, r, own2, hnf⟩
  · have hne : (c != 0) = true := by simpa using hc0
    have HFP := hide hfp
    clear hfp hnp
    go_wp2_with fail
    go_region
    go_wp2
    exact bodyPost_ret (v := .tuple #[.int .i64 0, .agg #[.int .i64 c, .int .i64 a]]) (by simp [results, Try.results13, go_sem, k0, k1]) rfl ⟨_, _, _, rfl, .inl ⟨HFP.out, hc0, rfl⟩, ((B3.setCell (p := ⟨w.heap.size, 0, none⟩) (Nat.le_refl _) _).setCell (p := ⟨w.heap.size, 1, none⟩) (Nat.le_refl _) _).drew⟩
  · have hr3 := terms_row ((own2.below b3).row)
    have hL3 := hL.keep (w' := w3) B3.size (fun i _ hl => B3.block i hl)
    have hn3 := hn.keep (w' := w3) B3.size (fun i _ hl => B3.block i hl)
    have hrl : r.length ≤ 1000 := by have := nf_len hnf; simp at this; omega
    have hrb := hide (nf_bound hnf hl1000 hsm)
    have HNF := hide hnf
    have HSM := hide hsm
    obtain ⟨ar, cr, rfl, hr1, hr2, hrat⟩ := hr3.at
    have hr4 := hide hr3
    have hL4 := hide hL3
    have hn4 := hide hn3
    clear hnp own2 hnf hsm hn hL k0 k1 fk K_w3 K2 B2 b2 hr3 hL3 hn3 hrat b3
    unfold maxLen at hr2 hL2
    go_wp2_with fail
    go_loopg [10, 11, 12] r.length (fun gh s10 s11 _ wr => ∃ (i : Nat) (acc : Int), s11 = .int .i64 (i : Int) ∧ s10 = .int .i64 acc ∧ i ≤ r.length ∧ r.length ≤ gh + i ∧ Hid (vrun names L ((r.map te).drop i) acc = vrun names L (r.map te) 0) ∧ (-(1000000000000000 * (i : Int)) ≤ acc ∧ acc ≤ 1000000000000000 * (i : Int)) ∧ Below w3.heap.size w3 wr)
    case atStart => exact ⟨0, 0, rfl, rfl, by omega, by omega, hide rfl, by constructor <;> simp, Below.refl _ _⟩
    case round =>
      obtain ⟨i, acc, rfl, rfl, hir, hgh, HV, hacc, bR⟩ := hrel
      clear d0 d1
      have KR := (bR.block _ (lt_of K3)).trans K3
      have BR := B3.trans (bR.mono B3.size)
      by_cases hlt : i < r.length
      case neg =>
        have hge : ¬ (i : Int) < (r.length : Int) := by omega
        have hie : i = r.length := by omega
        have hv := HV.out
        rw [List.drop_eq_nil_of_le (by simp; omega)] at hv
        have hv2 : vrun names L (r.map te) 0 = (acc, 0) := hv.symm
        have HV2 := hide hv2
        clear hv hv2 HV
        have k0 := cell_of KR 0
        have k1 := cell_of KR 1
        have fk := fun o => free_of KR o
        simp at k0 k1
        have hab : -1000000000000000000 ≤ acc ∧ acc ≤ 1000000000000000000 := by omega
        clear hacc
        go_wp2
        exact bodyPost_ret (v := .tuple #[.int .i64 acc, .agg #[.int .i64 0, .int .i64 0]]) (by simp [results, Try.results13, go_sem, k0, k1]) rfl ⟨_, _, _, rfl, .inr ⟨hl1000, HSM.out, _, HNF.out, by rw [HV2.out], by rw [HV2.out], by rw [HV2.out]; rfl⟩, (BR.setCell (p := ⟨w.heap.size, 0, none⟩) (Nat.le_refl _) _).setCell (p := ⟨w.heap.size, 1, none⟩) (Nat.le_refl _) _⟩
      case pos =>
        have hltI : (i : Int) < (r.length : Int) := by omega
        obtain ⟨ar', cr', ev, _, _, hrat⟩ := (hr4.out.keep (w' := wr) bR.size (fun i _ hl => bR.block i hl)).at
        injection ev with ev1 ev2 ev3
        subst ev1
        obtain ⟨b, o, rfl, hb, c0, c1⟩ := hrat i hlt
        clear hrat ev2 ev3
        have hri := hrb.out (te r[i]) (List.mem_map.2 ⟨r[i], List.getElem_mem hlt, rfl⟩)
        have hst := vrun_step (names := names) (L := L) (r := r.map te) (i := i) (by simpa using hlt) acc
        rw [show (r.map te)[i]'(by simpa using hlt) = te r[i] by simp, HV.out] at hst
        have htb := tvT_bound (names := names) (L := L) hri
        generalize r[i] = t at c0 c1 hri hst htb
        have HST := hide hst
        clear hst HV
        have hidx := indexOf_any (s := t.2) (hn4.out.keep (w' := wr) bR.size (fun i _ hl => bR.block i hl))
        have hab : -1000000000000000000 ≤ acc ∧ acc ≤ 1000000000000000000 := by omega
        by_cases hem : t.2.data.toList = []
        · obtain ⟨tn, ts⟩ := t
          simp only at *
          have hx : ts = ⟨#[]⟩ := by
            have h1 : ts.data = #[] := by
              have := congrArg List.toArray hem
              simpa using this
            exact ByteArray.ext h1
          subst hx
          have e : tvT names L (te (tn, ⟨#[]⟩)) = (tn, 0) := by
            show tvT names L (tn, []) = _
            simp [tvT]
          rw [e] at HST htb
          have HS2 : Hid (vrun names L ((r.map te).drop (i + 1)) (acc + tn) = vrun names L (r.map te) 0) := hide (by have := HST.out; simpa using this.symm)
          have hac2 : -(1000000000000000 * ((i + 1 : Nat) : Int)) ≤ acc + tn ∧ acc + tn ≤ 1000000000000000 * ((i + 1 : Nat) : Int) := by simp only at htb; omega
          have HA2 := hide hac2
          have htn : -1000000000 ≤ tn ∧ tn ≤ 1000000000 := hri
          clear hac2 hacc HST e hidx hem htb hri
          go_wp2_with fail
          go_roundg (gk - 1)
          case measure => omega
          case rel => exact ⟨i + 1, acc + tn, by go_num, rfl, by omega, by omega, HS2, HA2.out, bR⟩
        · have hne1 : t.2.toList.isEmpty = false := by
            rw [Lib.toList_data]
            cases hc : t.2.data.toList with
            | nil => exact absurd hc hem
            | cons a b => rfl
          have hne2 : ¬ t.2.toList = [] := by rw [Lib.toList_data]; exact hem
          have hne3 : (t.2.toList == ([] : List UInt8)) = false := by simpa using hne2
          have hpf := plc_fst (names := names) (k := L.length) hem
          cases hf : fstI names t.2.data.toList with
          | none =>
            rw [hf] at hpf hidx
            have e := tvT_none (t := te t) hem hpf
            rw [e] at HST
            have HS2 : Hid (vrun names L (r.map te) 0 = (0, 9)) := hide (by have := HST.out; rw [if_neg (by decide)] at this; exact this)
            clear HST e htb hpf hf
            rw [show ixI none = (-1 : Int) from rfl] at hidx
            have KX := KR
            have BX := BR
            go_upto_region 11 with (go_at_call 25; refine hidx.mono ?_; rintro e w' ⟨rfl, hww⟩; rw [hww]; clear hww)
            go_wp2_with fail
            refine (fault_any _ _ _).mono ?_
            rintro e w5 ⟨rfl, b5⟩
            have K5 := (b5.block _ (lt_of KX)).trans KX
            have B5 := BX.trans (b5.mono BX.size)
            have k0 := cell_of K5 0
            have k1 := cell_of K5 1
            have fk := fun o => free_of K5 o
            simp at k0 k1
            go_wp2
            exact bodyPost_ret (v := .tuple #[.int .i64 0, .agg #[.int .i64 9, .int .i64 (-1)]]) (by simp [results, Try.results13, go_sem, k0, k1]) rfl ⟨_, _, _, rfl, .inr ⟨hl1000, HSM.out, _, HNF.out, by rw [HS2.out], by rw [HS2.out], by rw [HS2.out]; rfl⟩, (B5.setCell (p := ⟨w.heap.size, 0, none⟩) (Nat.le_refl _) _).setCell (p := ⟨w.heap.size, 1, none⟩) (Nat.le_refl _) _⟩
          | some q =>
            rw [hf] at hpf hidx
            rw [show ixI (some q) = (q : Int) from rfl] at hidx
            have hq0 : ¬ (q : Int) < 0 := by omega
            by_cases hqL : q < L.length
            · simp only [if_pos hqL] at hpf
              have e := tvT_some (t := te t) hem hpf
              obtain ⟨aL', cL', ev, _, _, hLat⟩ := (hL4.out.keep (w' := wr) bR.size (fun i _ hl => bR.block i hl)).at
              injection ev with ev1 ev2 ev3
              subst ev1
              obtain ⟨bL, oL, rfl, hbL, z0⟩ := hLat q hqL
              have hg : L.getD q 0 = L[q] := by simp [hqL]
              rw [hg] at e
              generalize L[q] = z at z0 e
              clear hLat ev2 ev3 hg hpf hf
              have hqI : (q : Int) < (L.length : Int) := by omega
              rw [e] at HST htb
              clear e
              have hs6 := small6_any z wr
              cases hsm : small z with
              | true =>
                rw [hsm] at hs6 HST htb
                simp only [if_true] at HST htb
                have HS2 : Hid (vrun names L ((r.map te).drop (i + 1)) (acc + t.1 * z) = vrun names L (r.map te) 0) := hide (by have := HST.out; simp only [te] at this; exact this.symm)
                have htb2 : -1000000000000000 ≤ t.1 * z ∧ t.1 * z ≤ 1000000000000000 := htb
                have hac2 : -(1000000000000000 * ((i + 1 : Nat) : Int)) ≤ acc + t.1 * z ∧ acc + t.1 * z ≤ 1000000000000000 * ((i + 1 : Nat) : Int) := by omega
                have HA2 := hide hac2
                clear hac2 hacc HST htb
                go_upto_region 13 with (go_at_call 25; refine hidx.mono ?_; rintro e w' ⟨rfl, hww⟩; rw [hww]; clear hww)
                go_wp2_with fail
                refine hs6.mono ?_
                rintro e w5 ⟨rfl, b5⟩
                have c05 := (b5.cell (p := ⟨b, o + i * 2, none⟩) hb).trans c0
                have z05 := (b5.cell (p := ⟨bL, oL + q, none⟩) hbL).trans z0
                have bR5 := bR.trans (b5.mono bR.size)
                clear c0 z0 c1 hs6
                go_upto_region 15 with fail
                go_quiet (fail)
                go_wp2_with fail
                go_roundg (gk - 1)
                case measure => omega
                case rel => exact ⟨i + 1, acc + t.1 * z, by go_num, rfl, by omega, by omega, HS2, HA2.out, drewN_below bR5 _⟩
              | false =>
                rw [hsm] at hs6 HST
                have HS2 : Hid (vrun names L (r.map te) 0 = (0, 16)) := hide (by have := HST.out; simpa using this)
                clear HST htb
                go_upto_region 13 with (go_at_call 25; refine hidx.mono ?_; rintro e w' ⟨rfl, hww⟩; rw [hww]; clear hww)
                go_wp2_with fail
                refine hs6.mono ?_
                rintro e w4 ⟨rfl, b4⟩
                have KX := (b4.block _ (lt_of KR)).trans KR
                have BX := BR.trans (b4.mono BR.size)
                go_wp2_with fail
                refine (fault_any _ _ _).mono ?_
                rintro e w5 ⟨rfl, b5⟩
                have K5 := (b5.block _ (lt_of KX)).trans KX
                have B5 := BX.trans (b5.mono BX.size)
                have k0 := cell_of K5 0
                have k1 := cell_of K5 1
                have fk := fun o => free_of K5 o
                simp at k0 k1
                go_wp2
                exact bodyPost_ret (v := .tuple #[.int .i64 0, .agg #[.int .i64 16, .int .i64 (-1)]]) (by simp [results, Try.results13, go_sem, k0, k1]) rfl ⟨_, _, _, rfl, .inr ⟨hl1000, HSM.out, _, HNF.out, by rw [HS2.out], by rw [HS2.out], by rw [HS2.out]; rfl⟩, (B5.setCell (p := ⟨w.heap.size, 0, none⟩) (Nat.le_refl _) _).setCell (p := ⟨w.heap.size, 1, none⟩) (Nat.le_refl _) _⟩
            · simp only [if_neg hqL] at hpf
              have e := tvT_none (t := te t) hem hpf
              rw [e] at HST
              have HS2 : Hid (vrun names L (r.map te) 0 = (0, 9)) := hide (by have := HST.out; rw [if_neg (by decide)] at this; exact this)
              clear HST e htb hpf hf
              have hqI : ¬ (q : Int) < (L.length : Int) := by omega
              have KX := KR
              have BX := BR
              go_upto_region 11 with (go_at_call 25; refine hidx.mono ?_; rintro e w' ⟨rfl, hww⟩; rw [hww]; clear hww)
              go_wp2_with fail
              refine (fault_any _ _ _).mono ?_
              rintro e w5 ⟨rfl, b5⟩
              have K5 := (b5.block _ (lt_of KX)).trans KX
              have B5 := BX.trans (b5.mono BX.size)
              have k0 := cell_of K5 0
              have k1 := cell_of K5 1
              have fk := fun o => free_of K5 o
              simp at k0 k1
              go_wp2
              exact bodyPost_ret (v := .tuple #[.int .i64 0, .agg #[.int .i64 9, .int .i64 (-1)]]) (by simp [results, Try.results13, go_sem, k0, k1]) rfl ⟨_, _, _, rfl, .inr ⟨hl1000, HSM.out, _, HNF.out, by rw [HS2.out], by rw [HS2.out], by rw [HS2.out]; rfl⟩, (B5.setCell (p := ⟨w.heap.size, 0, none⟩) (Nat.le_refl _) _).setCell (p := ⟨w.heap.size, 1, none⟩) (Nat.le_refl _) _⟩
end Go.Proofs.Ytjpjedigajiomaa
