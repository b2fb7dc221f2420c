/-
  DERIVED. THE WALK of the document's own With.
-/
import Derived.Test.YtjpjedigajiomaaSzL
namespace Go.Proofs.Ytjpjedigajiomaa
open Go.Shelf Go.RowKit Go.Lib Go.IntWalk Go.Maps
set_option linter.unusedVariables false
set_option linter.unusedSimpArgs false
set_option maxRecDepth 100000

theorem plc_empty (names : List ByteArray) (k : Nat) : plc names k [] = none := by simp [plc]
theorem wt_len {names : List ByteArray} {L : List (List Tm)} {t : Tm} (h : ∀ m ∈ L, m.length ≤ 1100) : (wt names L t).length ≤ 1100 := by
  unfold wt
  cases hp : plc names L.length t.2.data.toList with
  | none => simp
  | some q =>
    simp only [List.length_map]
    have hq := (plc_lt hp).1
    rw [show L.getD q [] = L[q] by simp [hq]]
    exact h _ (List.getElem_mem hq)
theorem withL_len {names : List ByteArray} {L : List (List Tm)} (h : ∀ m ∈ L, m.length ≤ 1100) : ∀ s : List Tm, (withL names L s).length ≤ s.length * 1100
  | [] => by simp [withL]
  | t :: s => by
    have h1 := withL_len h s (names := names)
    have h2 := wt_len (names := names) (t := t) h
    have e : withL names L (t :: s) = wt names L t ++ withL names L s := by simp [withL]
    rw [e, List.length_append, List.length_cons]
    omega
theorem wcode_end {names : List ByteArray} {L : List (List Tm)} {s : List Tm} (h : s.any (wbad names L) = false) : wcode names L s = if 1000 < (withL names L s).length then 7 else 0 := by
  unfold wcode
  rw [h]
  rfl

set_option maxHeartbeats 8000000 in
theorem refWith_any {ok okn okl : Nat → Prop} {w : World} {v vn vl : Value} {s : List Tm} {names : List ByteArray} {L : List (List Tm)} (hs : HTerms ok w v s) (hn : HNames okn w vn names) (hL : HSizes okl w vl L) (hsl : s.length ≤ 1100) (hLs : ∀ m ∈ L, m.length ≤ 1100) :
    Calls Try.prog 11 #[v, vn, vl] w fun e w' => ∃ u c a, e = .returned (.tuple #[u, .agg #[.int .i64 c, .int .i64 a]]) ∧ WithP w.heap.size w' names L s u c a ∧ Below w.heap.size w w' := by
  obtain ⟨w1, hw1⟩ : ∃ w1, w1 = w.alloc (.cells #[.int .i64 0, .int .i64 0] 30 (0, 0)) := ⟨_, rfl⟩
  have b1 : Below w.heap.size w w1 := by rw [hw1]; exact (Below.refl _ _).alloc (Nat.le_refl _) _
  have K1 : w1.heap[w.heap.size]? = some (.cells #[.int .i64 0, .int .i64 0] 30 (0, 0)) := by rw [hw1]; exact heap_new _ _
  have y1 := lt_of K1
  have HS1 := hide (hs.keep (w' := w1) b1.size (fun i _ hl => b1.block i hl))
  have HN1 := hide (hn.keep (w' := w1) b1.size (fun i _ hl => b1.block i hl))
  have HL1 := hide (hL.keep (w' := w1) b1.size (fun i _ hl => b1.block i hl))
  obtain ⟨ao, cap, rfl, hc1, hc2, hat⟩ := hs.at
  obtain ⟨aL, cL, rfl, hL1, hL2, hLat⟩ := hL.at
  obtain ⟨an, cn, rfl, hn1, hn2, _⟩ := hn.at
  unfold maxLen at hc2 hL2
  clear hs hL hn hat hLat
  go_enter Try.func11, Try.ntmps11
  go_upto_region 1 with fail
  rw [← hw1]
  clear hw1
  go_wp2_with fail
  go_loopg [8, 9, 10, 11, 12] s.length (fun gh s8 s9 _ _ _ wr => ∃ (i : Nat), s9 = .int .i64 (i : Int) ∧ i ≤ s.length ∧ s.length ≤ gh + i ∧ Hid (OwnL kTerm w1.heap.size wr s8 (withL names L (s.take i))) ∧ Hid ((s.take i).any (wbad names L) = false) ∧ Below w1.heap.size w1 wr)
  case atStart => exact ⟨0, rfl, by omega, by omega, hide (by simpa [withL] using OwnL.nil), hide (by simp), Below.refl _ _⟩
  case round =>
    obtain ⟨i, rfl, his, hgi, HO, HA, bR⟩ := hrel
    have yR := bR.size
    have KR := (bR.block _ y1).trans K1
    have BR := b1.trans (bR.mono b1.size)
    obtain ⟨ax, cx, hvx, hx1, hx2⟩ := HO.out.form
    subst hvx
    by_cases hlt : i < s.length
    case neg =>
      have hge : ¬ (i : Int) < (s.length : Int) := by omega
      have hie : i = s.length := by omega
      rw [hie, List.take_length] at HO HA hx1 ⊢
      have HWC := hide (wcode_end HA.out)
      have k0 := cell_of KR 0
      have k1 := cell_of KR 1
      have fk := fun o => free_of KR o
      simp at k0 k1
      obtain ⟨X, hX⟩ : ∃ X, X = withL names L s := ⟨_, rfl⟩
      rw [← hX] at HO HWC hx1 ⊢
      have HX := hide hX
      clear hX HA
      by_cases hn : 1000 < X.length
      · have hnI : (1000 : Int) < (X.length : Int) := by omega
        go_wp2_with fail
        refine (fault_any _ _ _).mono ?_
        rintro e w5 ⟨rfl, b5⟩
        have K5 := (b5.block _ (lt_of KR)).trans KR
        have B5 := BR.trans (b5.mono BR.size)
        clear k0 k1 fk
        have k0 := cell_of K5 0
        have k1 := cell_of K5 1
        have fk := fun o => free_of K5 o
        simp at k0 k1
        go_wp2
        exact bodyPost_ret (v := .tuple #[.slice none 0 0, .agg #[.int .i64 7, .int .i64 (-1)]]) (by simp [results, Try.results11, go_sem, k0, k1]) rfl ⟨_, _, _, rfl, ⟨by rw [HWC.out, if_pos hn], .inl ⟨by decide, rfl, rfl⟩⟩, (B5.setCell (p := ⟨w.heap.size, 0, none⟩) (Nat.le_refl _) _).setCell (p := ⟨w.heap.size, 1, none⟩) (Nat.le_refl _) _⟩
      · have hnI : ¬ (1000 : Int) < (X.length : Int) := by omega
        go_wp2
        have own5 := ((HO.out.set (p := ⟨w.heap.size, 0, none⟩) y1 (.int .i64 0)).set (p := ⟨w.heap.size, 1, none⟩) y1 (.int .i64 0)).lower (B := w.heap.size) (by omega)
        exact bodyPost_ret (v := .tuple #[.slice ax X.length cx, .agg #[.int .i64 0, .int .i64 0]]) (by simp [results, Try.results11, go_sem, k0, k1]) rfl ⟨_, _, _, rfl, ⟨by rw [HWC.out, if_neg hn], .inr ⟨rfl, rfl, by rw [← HX.out]; exact own5⟩⟩, (BR.setCell (p := ⟨w.heap.size, 0, none⟩) (Nat.le_refl _) _).setCell (p := ⟨w.heap.size, 1, none⟩) (Nat.le_refl _) _⟩
    case pos =>
      have hltI : (i : Int) < (s.length : Int) := by omega
      obtain ⟨ao', cap', ev, _, _, hatR⟩ := (HS1.out.keep (w' := wr) yR (fun i hi hl => bR.block i hl)).at
      injection ev with ev1 ev2 ev3
      subst ev1
      obtain ⟨b, o, rfl, hb, c0, c1⟩ := hatR i hlt
      have hb1 : b < w1.heap.size := by
        obtain ⟨ao'', cap'', ev8, _, _, hat8⟩ := HS1.out.at
        injection ev8 with ev9 _ _
        obtain ⟨bx, ox, e8, hb8, _⟩ := hat8 i hlt
        rw [← ev9] at e8
        injection e8 with e8
        injection e8 with e8 _ _
        rw [e8]; exact hb8
      clear hatR ev2 ev3
      have hws := withL_step (names := names) (L := L) hlt
      have hwa := wany_step (names := names) (L := L) hlt
      have hwlen := withL_len (names := names) hLs (s.take i)
      rw [List.length_take] at hwlen
      have hXl : (withL names L (s.take i)).length ≤ 1210000 := by omega
      have HW3 := hide (fun h : wbad names L s[i] = true => (show wcode names L s = 16 by
        unfold wcode
        rw [if_pos (List.any_eq_true.2 ⟨s[i], List.getElem_mem hlt, h⟩)]))
      rw [HA.out, Bool.false_or] at hwa
      generalize s[i] = t at c0 c1 hws hwa HW3
      have HWS := hide hws
      have HWA := hide hwa
      clear hws hwa hwlen
      have hidx := indexOf_any (s := t.2) (HN1.out.keep (w' := wr) yR (fun i hi hl => bR.block i hl))
      have HOW := hide HO.out
      obtain ⟨X, hX⟩ : ∃ X, X = withL names L (s.take i) := ⟨_, rfl⟩
      rw [← hX] at HOW HWS hXl hx1 ⊢
      clear hX HO HA
      -- the ways on which the term itself comes
      have q1 : kTerm.E (fun i => wr.heap.size ≤ i) wr [.int .i64 t.1, .string t.2] t := rfl
      have q2 : (X.length + 1) * kTerm.bytes ≤ 140737488355328 := by show (X.length + 1) * 24 ≤ _; omega
      have q3 : X.length + 1 ≤ maxLen := by unfold maxLen; omega
      by_cases hem : t.2.data.toList = []
      · obtain ⟨tn, ts⟩ := t
        simp only at *
        have hx : ts = ⟨#[]⟩ := by
          have h1 : ts.data = #[] := by
            have := congrArg List.toArray hem
            simpa using this
          exact ByteArray.ext h1
        subst hx
        have hp : plc names L.length (⟨#[]⟩ : ByteArray).data.toList = none := plc_empty _ _
        have hw0 : wt names L (tn, ⟨#[]⟩) = [(tn, ⟨#[]⟩)] := by unfold wt; rw [hp]
        have hb0 : wbad names L (tn, ⟨#[]⟩) = false := by unfold wbad; rw [hp]
        have HWS2 := hide (by have := HWS.out; rw [hw0] at this; exact this)
        have HWA2 := hide (HWA.out.trans hb0)
        have ownR := HOW.out
        have hNb := fun k hk => (ownR.lt k hk).2
        clear hidx hp hw0 hb0 HWS HWA HOW hem HW3
        go_wp2_with (at_builtin; refine wpList_more kTerm rfl _ _ 23 39 rfl Try.underlying23 w1.heap.size wr.heap.size _ X (by rfl) ownR [.int .i64 tn, .string ⟨#[]⟩] (tn, ⟨#[]⟩) q1 (by rfl) hNb yR yR q2 q3 ?_; intro v8 w8 own8 b8 _ _)
        go_wp2_with fail
        go_roundg (gk - 1)
        case measure => omega
        case rel => exact ⟨i + 1, by go_num, by omega, by omega, hide (by rw [HWS2.out]; exact own8), HWA2, bR.trans b8⟩
      · have hne1 : t.2.toList.isEmpty = false := by
          rw [Lib.toList_data]
          cases hc : t.2.data.toList with
          | nil => exact absurd hc hem
          | cons a b => rfl
        have hne2 : ¬ t.2.toList = [] := by rw [Lib.toList_data]; exact hem
        have hne3 : (t.2.toList == ([] : List UInt8)) = false := by simpa using hne2
        have hpf := plc_fst (names := names) (k := L.length) hem
        cases hf : fstI names t.2.data.toList with
        | none =>
          rw [hf] at hpf hidx
          rw [show ixI none = (-1 : Int) from rfl] at hidx
          have hw0 : wt names L t = [t] := by unfold wt; rw [hpf]
          have hb0 : wbad names L t = false := by unfold wbad; rw [hpf]
          have HWS2 := hide (by have := HWS.out; rw [hw0] at this; exact this)
          have HWA2 := hide (HWA.out.trans hb0)
          have ownR := HOW.out
          have hNb := fun k hk => (ownR.lt k hk).2
          clear hpf hw0 hb0 HWS HWA HOW hem HW3 hf
          go_upto_region 8 with (go_at_call 25; refine hidx.mono ?_; rintro e w' ⟨rfl, hww⟩; rw [hww]; clear hww)
          go_wp2_with (at_builtin; refine wpList_more kTerm rfl _ _ 23 39 rfl Try.underlying23 w1.heap.size wr.heap.size _ X (by rfl) ownR [.int .i64 t.1, .string t.2] t q1 (by rfl) hNb yR yR q2 q3 ?_; intro v8 w8 own8 b8 _ _)
          go_wp2_with fail
          go_roundg (gk - 1)
          case measure => omega
          case rel => exact ⟨i + 1, by go_num, by omega, by omega, hide (by rw [HWS2.out]; exact own8), HWA2, bR.trans b8⟩
        | some q =>
          rw [hf] at hpf hidx
          rw [show ixI (some q) = (q : Int) from rfl] at hidx
          have hq0 : ¬ (q : Int) < 0 := by omega
          by_cases hqL : q < L.length
          · simp only [if_pos hqL] at hpf
            have hqI : (q : Int) < (L.length : Int) := by omega
            have hwb := wbad_some (L := L) hpf
            have hw0 : wt names L t = (L.getD q []).map (times t.1) := by unfold wt; rw [hpf]
            have hgd : L.getD q [] = L[q] := by simp [hqL]
            rw [hgd] at hwb hw0
            have hmlen := hLs L[q] (List.getElem_mem hqL)
            obtain ⟨aL', cL', ev, _, _, hLat⟩ := (HL1.out.wide (ok' := fun i => i < w1.heap.size) (fun i _ hl => hl)).at
            injection ev with ev1 ev2 ev3
            subst ev1
            obtain ⟨bL, oL, au, nu, cu, rfl, hbL, cL0, hTu⟩ := hLat q hqL
            obtain ⟨au', cu', ev4, hu1, hu2, _⟩ := hTu.at
            injection ev4 with ev5 ev6 ev7
            subst ev6
            generalize hm0 : L[q] = m at cL0 hTu hwb hw0 hmlen
            have HWS2 := hide (by have := HWS.out; rw [hw0] at this; exact this)
            have HWB := hide hwb
            have HTU := hide hTu
            unfold maxLen at hu2
            clear hm0 hLat hw0 hgd ev2 ev3 ev5 ev7 hwb hpf hf HWS hTu q1 q2 q3
            obtain ⟨wo, hwo⟩ : ∃ wo, wo = wr := ⟨_, rfl⟩
            subst hwo
            obtain ⟨G, hG⟩ : ∃ G, G = gk := ⟨_, rfl⟩
            subst hG
            go_upto_region 8 with (go_at_call 25; refine hidx.mono ?_; rintro e w' ⟨rfl, hww⟩; rw [hww]; clear hww)
            clear hidx
            go_wp2_with fail
            have hdq : decide (L.length ≤ q) = false := decide_eq_false (by omega)
            simp only [hdq, Bool.or_false]
            clear hdq
            go_loopg [8, 11, 12] m.length (fun gh s8 s11 _ wr => ∃ (j : Nat), s11 = .int .i64 (j : Int) ∧ j ≤ m.length ∧ m.length ≤ gh + j ∧ Hid (OwnL kTerm w1.heap.size wr s8 (X ++ (m.take j).map (times t.1))) ∧ Hid (∀ j' (h : j' < m.length), j' < j → small (m[j']).1 = true ∧ small t.1 = true) ∧ Below w1.heap.size w1 wr)
            case atStart => exact ⟨0, rfl, by omega, by omega, hide (by simpa using HOW.out), hide (fun j' _ h => absurd h (Nat.not_lt_zero _)), bR⟩
            case round =>
              obtain ⟨j, rfl, hjm, hgj, HOj, HSJ, bRj⟩ := hrel
              have yRj := bRj.size
              have cLj := (bRj.cell (p := ⟨bL, oL + q, none⟩) hbL).trans cL0
              have hbLj := Nat.lt_of_lt_of_le hbL yRj
              obtain ⟨ay, cy, hvy, hy1, hy2⟩ := HOj.out.form
              obtain ⟨N, hN⟩ : ∃ N, N = (X ++ (m.take j).map (times t.1)).length := ⟨_, rfl⟩
              rw [← hN] at hvy hy1
              have HNN := hide hN
              clear hN
              subst hvy
              by_cases hjlt : j < m.length
              case neg =>
                have hge : ¬ (j : Int) < (m.length : Int) := by omega
                have hje : j = m.length := by omega
                have hsa : ∀ u ∈ m, small u.1 = true ∧ small t.1 = true := fun u hu => by
                  obtain ⟨j', hj', rfl⟩ := List.mem_iff_getElem.1 hu
                  exact HSJ.out j' hj' (by omega)
                have hbf : wbad names L t = false := by
                  rw [HWB.out, Bool.or_eq_false_iff, List.any_eq_false]
                  refine ⟨?_, fun u hu => by rw [(hsa u hu).1]; simp⟩
                  cases m with
                  | nil => simp
                  | cons a m' => simp [(hsa a (by simp)).2]
                have HWA2 := hide (HWA.out.trans hbf)
                clear hbf hsa
                have HO9 := hide (show OwnL kTerm w1.heap.size wr (.slice ay N cy) (X ++ m.map (times t.1)) by
                  have h := HOj.out
                  rw [hje, List.take_length] at h
                  exact h)
                go_wp2_with fail
                go_roundg (G - 1)
                case measure => omega
                case rel => exact ⟨i + 1, by go_num, by omega, by omega, hide (by rw [HWS2.out]; exact HO9.out), HWA2, bRj⟩
              case pos =>
                have hjI : (j : Int) < (m.length : Int) := by omega
                obtain ⟨aw, cw, ev, _, _, hmat⟩ := (HTU.out.keep (w' := wr) yRj (fun i hi hl => bRj.block i hi)).at
                injection ev with ev1 ev2 ev3
                subst ev1
                obtain ⟨bm, om, rfl, hbm, m0, m1⟩ := hmat j hjlt
                clear hmat ev2 ev3
                have e0 := (World.cell?_of_block (w := w1) (a := ⟨b, o + i * 2, none⟩) (bRj.block b hb1))
                have e00 : wr.cell? ⟨b, o + i * 2, none⟩ = some (.int .i64 t.1) := e0.trans ((World.cell?_of_block (w := w1) (a := ⟨b, o + i * 2, none⟩) (bR.block b hb1)).symm.trans c0)
                clear e0
                have HJM := hide (List.getElem_mem hjlt)
                have hjs : X ++ (m.take j).map (times t.1) ++ [times t.1 m[j]] = X ++ (m.take (j + 1)).map (times t.1) := by
                  rw [List.take_succ_eq_append_getElem hjlt, List.map_append, List.append_assoc]
                  rfl
                have hll : (X ++ (m.take j).map (times t.1)).length = X.length + j := by rw [List.length_append, List.length_map, List.length_take]; omega
                have HSJn := hide (fun (h1 : small (m[j]).1 = true) (h2 : small t.1 = true) j' (h : j' < m.length) (hjj : j' < j + 1) => (show small (m[j']).1 = true ∧ small t.1 = true by
                  by_cases e : j' = j
                  · subst e; exact ⟨h1, h2⟩
                  · exact HSJ.out j' h (by omega)))
                generalize m[j] = x at m0 m1 HJM hjs HSJn
                have HJS := hide hjs
                clear hjs HSJ
                go_upto_region 14 with fail
                obtain ⟨wA, hwA⟩ : ∃ wA, wA = wr.alloc (.cells #[.int .i64 x.1, .string x.2] 39 (0, 0)) := ⟨_, rfl⟩
                have bA : Below wr.heap.size wr wA := by rw [hwA]; exact (Below.refl _ _).alloc (Nat.le_refl _) _
                have KA : wA.heap[wr.heap.size]? = some (.cells #[.int .i64 x.1, .string x.2] 39 (0, 0)) := by rw [hwA]; exact heap_new _ _
                rw [← hwA]
                clear hwA m0 m1
                have d0 := cell_of KA 0
                have d1 := cell_of KA 1
                simp at d0 d1
                have bRA := bRj.trans (bA.mono yRj)
                have ownA := HOj.out.below bA
                have e0A := (World.cell?_of_block (w := wr) (a := ⟨b, o + i * 2, none⟩) (bA.block b (Nat.lt_of_lt_of_le hb1 yRj))).trans e00
                have hbA : b < wA.heap.size := Nat.lt_of_lt_of_le hb1 bRA.size
                have hs6 := small6_any x.1 wA
                have hC16 : (small x.1 = false ∨ small t.1 = false) → wcode names L s = 16 := fun h => HW3.out (by
                  rw [HWB.out, Bool.or_eq_true, List.any_eq_true]
                  rcases h with h | h
                  · exact .inr ⟨x, HJM.out, by rw [h]; rfl⟩
                  · exact .inl (by rw [h]; simp; exact List.length_pos_of_mem HJM.out))
                cases hsx : small x.1 with
                | false =>
                  rw [hsx] at hs6
                  have HC16 := hide (hC16 (.inl hsx))
                  clear hC16
                  go_wp2_with fail
                  refine hs6.mono ?_
                  rintro e w5 ⟨rfl, b5⟩
                  have bRX := bRA.trans (b5.mono bRA.size)
                  go_wp2_with fail
                  refine (fault_any _ _ _).mono ?_
                  rintro e w6 ⟨rfl, b6⟩
                  have bX := bRX.trans (b6.mono bRX.size)
                  have K6 := (bX.block _ y1).trans K1
                  have B6 := b1.trans (bX.mono b1.size)
                  have k0 := cell_of K6 0
                  have k1 := cell_of K6 1
                  have fk := fun o => free_of K6 o
                  simp at k0 k1
                  go_wp2
                  exact bodyPost_ret (v := .tuple #[.slice none 0 0, .agg #[.int .i64 16, .int .i64 (-1)]]) (by simp [results, Try.results11, go_sem, k0, k1]) rfl ⟨_, _, _, rfl, ⟨HC16.out.symm, .inl ⟨by decide, rfl, rfl⟩⟩, (B6.setCell (p := ⟨w.heap.size, 0, none⟩) (Nat.le_refl _) _).setCell (p := ⟨w.heap.size, 1, none⟩) (Nat.le_refl _) _⟩
                | true =>
                  rw [hsx] at hs6
                  go_wp2_with fail
                  refine hs6.mono ?_
                  rintro e w5 ⟨rfl, b5⟩
                  have bRX := bRA.trans (b5.mono bRA.size)
                  have e05 := (b5.cell (p := ⟨b, o + i * 2, none⟩) hbA).trans e0A
                  have hs7 := small6_any t.1 w5
                  cases hst : small t.1 with
                  | false =>
                    rw [hst] at hs7
                    have HC16 := hide (hC16 (.inr hst))
                    clear hC16
                    go_wp2_with fail
                    refine hs7.mono ?_
                    rintro e w7 ⟨rfl, b7⟩
                    have bRX := bRX.trans (b7.mono bRX.size)
                    go_wp2_with fail
                    refine (fault_any _ _ _).mono ?_
                    rintro e w6 ⟨rfl, b6⟩
                    have bX := bRX.trans (b6.mono bRX.size)
                    have K6 := (bX.block _ y1).trans K1
                    have B6 := b1.trans (bX.mono b1.size)
                    have k0 := cell_of K6 0
                    have k1 := cell_of K6 1
                    have fk := fun o => free_of K6 o
                    simp at k0 k1
                    go_wp2
                    exact bodyPost_ret (v := .tuple #[.slice none 0 0, .agg #[.int .i64 16, .int .i64 (-1)]]) (by simp [results, Try.results11, go_sem, k0, k1]) rfl ⟨_, _, _, rfl, ⟨HC16.out.symm, .inl ⟨by decide, rfl, rfl⟩⟩, (B6.setCell (p := ⟨w.heap.size, 0, none⟩) (Nat.le_refl _) _).setCell (p := ⟨w.heap.size, 1, none⟩) (Nat.le_refl _) _⟩
                  | true =>
                    rw [hst] at hs7
                    have hms := mul_small hst hsx
                    go_wp2_with fail
                    refine hs7.mono ?_
                    rintro e w7 ⟨rfl, b7⟩
                    have bA7 := b5.trans (b7.mono b5.size)
                    have bR7 := bRA.trans (bA7.mono bRA.size)
                    have KA7 := (bA7.block _ (lt_of KA)).trans KA
                    have own7 := ownA.below bA7
                    have e07 := (bA7.cell (p := ⟨b, o + i * 2, none⟩) hbA).trans e0A
                    have f0 := cell_of KA7 0
                    have f1 := cell_of KA7 1
                    simp at f0 f1
                    have HSJ2 := hide (HSJn.out hsx hst)
                    have hboxlt : wr.heap.size < w7.heap.size := lt_of KA7
                    have hboxne := fun k hk => (HOj.out.lt k hk).2
                    clear hC16 hs6 hs7 ownA d0 d1 e0A e05 b5 b7 HSJn
                    go_upto_region 16 with fail
                    have e0d : w7.drew.cell? ⟨b, o + i * 2, none⟩ = some (.int .i64 t.1) := e07
                    have e1d : w7.drew.cell? ⟨wr.heap.size, 0, none⟩ = some (.int .i64 x.1) := f0
                    have e2d : w7.drew.cell? ⟨wr.heap.size, 1, none⟩ = some (.string x.2) := f1
                    obtain ⟨wL, hwL⟩ : ∃ wL, wL = (w7.alloc (.cells #[.int .i64 (t.1 * x.1), .string x.2] 39 (0, 0))).drew := ⟨_, rfl⟩
                    have bL7 : Below w7.heap.size w7 wL := by rw [hwL]; exact ((Below.refl _ w7).alloc (Nat.le_refl _) _).drew
                    have KL : Blk wL w7.heap.size [times t.1 x] [] := by unfold Blk; rw [hwL]; exact heap_new w7 _
                    have sL : w7.drew.heap.size = w7.heap.size := rfl
                    have hlit := blk_terms (c := 1) KL (by simp) (by unfold maxLen; omega) (by simp)
                    have hwrap : IntKind.i64.wrap (t.1 * x.1) = t.1 * x.1 := by rw [IntKind.wrap_i64]; omega
                    have bRL := bR7.trans (bL7.mono bR7.size)
                    have hLlen : (X ++ (m.take j).map (times t.1)).length ≤ 1300000 := by rw [List.length_append, List.length_map, List.length_take]; omega
                    obtain ⟨vc, wc8, rc, oc, bc, gc⟩ := run_cat (B := w1.heap.size) (w := wL) (ty := 23) (own7.below bL7) hlit bRL.size (by simp at hLlen ⊢; omega)
                    have bRB8 := bRL.trans bc
                    have hkc : ∀ k, k < wL.heap.size → some k ≠ (Value.slice ay N cy).ownBlock → wc8.heap[k]? = wL.heap[k]? := fun k h1 h2 => gc.block k h1 h2
                    have hboxL : wr.heap.size < wL.heap.size := Nat.lt_of_lt_of_le hboxlt bL7.size
                    have hbxne : some wr.heap.size ≠ (Value.slice ay N cy).ownBlock := fun e => by have := hboxne _ e.symm; omega
                    have hHL : wL.cell? ⟨b, o + i * 2, none⟩ = some (.int .i64 t.1) ∧ wL.cell? ⟨wr.heap.size, 0, none⟩ = some (.int .i64 x.1) ∧ wL.cell? ⟨wr.heap.size, 1, none⟩ = some (.string x.2) :=
                      ⟨(bL7.cell (p := ⟨b, o + i * 2, none⟩) (Nat.lt_of_lt_of_le hbA bA7.size)).trans e07, (bL7.cell (p := ⟨wr.heap.size, 0, none⟩) hboxlt).trans f0, (bL7.cell (p := ⟨wr.heap.size, 1, none⟩) hboxlt).trans f1⟩
                    have hH8 : wc8.cell? ⟨b, o + i * 2, none⟩ = some (.int .i64 t.1) ∧ wc8.cell? ⟨wr.heap.size, 0, none⟩ = some (.int .i64 x.1) ∧ wc8.cell? ⟨wr.heap.size, 1, none⟩ = some (.string x.2) :=
                      ⟨(World.cell?_of_block (w := wL) (bc.block b hb1)).trans hHL.1, (World.cell?_of_block (w := wL) (hkc _ hboxL hbxne)).trans hHL.2.1, (World.cell?_of_block (w := wL) (hkc _ hboxL hbxne)).trans hHL.2.2⟩
                    simp only [List.length_singleton] at rc
                    clear hlit KL
                    refine wp_region_late (fun w' => w'.cell? ⟨b, o + i * 2, none⟩ = some (.int .i64 t.1) ∧ w'.cell? ⟨wr.heap.size, 0, none⟩ = some (.int .i64 x.1) ∧ w'.cell? ⟨wr.heap.size, 1, none⟩ = some (.string x.2)) (fun _ => false) (by kernel_rfl) ?_
                    have hH := And.intro e0d (And.intro e1d e2d)
                    refine' wpAnyL_take (i := 0) (oi := { dst := some 77, op := Op.move (Operand.tmp 8), type := 23, pos := "size.go:76", after := #[], guard := none }) (v := _) rfl (by kernel_rfl) (by kernel_rfl) (by kernel_rfl) (by kernel_rfl) (fun _ _ _ h => h) hH (by rfl) ?hyv ?onw
                    case hyv =>
                      intro wz hSw
                      obtain ⟨z0, z1, z2⟩ := hSw
                      go_simp
                      try rfl
                    case onw =>
                      try simp only [Act.put, List.setIfInBounds_toArray, List.set_cons_zero, List.set_cons_succ]
                      refine' wpAnyL_take (i := 1) (oi := { dst := some 78, op := Op.move (Operand.tmp 0), type := 23, pos := "size.go:76", after := #[], guard := none }) (v := _) rfl (by kernel_rfl) (by kernel_rfl) (by kernel_rfl) (by kernel_rfl) (fun _ _ _ h => h) hH (by rfl) ?hyv ?onw
                      case hyv =>
                        intro wz hSw
                        obtain ⟨z0, z1, z2⟩ := hSw
                        go_simp
                        try rfl
                      case onw =>
                        try simp only [Act.put, List.setIfInBounds_toArray, List.set_cons_zero, List.set_cons_succ]
                        refine' wpAnyL_take (i := 2) (oi := { dst := some 79, op := Op.move (Operand.tmp 9), type := 3, pos := "size.go:76", after := #[], guard := none }) (v := _) rfl (by kernel_rfl) (by kernel_rfl) (by kernel_rfl) (by kernel_rfl) (fun _ _ _ h => h) hH (by rfl) ?hyv ?onw
                        case hyv =>
                          intro wz hSw
                          obtain ⟨z0, z1, z2⟩ := hSw
                          go_simp
                          try rfl
                        case onw =>
                          try simp only [Act.put, List.setIfInBounds_toArray, List.set_cons_zero, List.set_cons_succ]
                          refine' wpAnyL_take (i := 3) (oi := { dst := some 80, op := Op.indexAddr 23 (Operand.tmp 78) (Operand.tmp 79), type := 0, pos := "size.go:76", after := #[{ on := 1, ground := Ground.data }, { on := 2, ground := Ground.data }], guard := none }) (v := _) rfl (by kernel_rfl) (by kernel_rfl) (by kernel_rfl) (by kernel_rfl) (fun _ _ _ h => h) hH (by rfl) ?hyv ?onw
                          case hyv =>
                            intro wz hSw
                            obtain ⟨z0, z1, z2⟩ := hSw
                            go_simp
                            try rfl
                          case onw =>
                            try simp only [Act.put, List.setIfInBounds_toArray, List.set_cons_zero, List.set_cons_succ]
                            refine' wpAnyL_take (i := 4) (oi := { dst := some 81, op := Op.fieldAddr 39 (Operand.tmp 80) 0, type := 0, pos := "size.go:76", after := #[{ on := 3, ground := Ground.data }], guard := none }) (v := _) rfl (by kernel_rfl) (by kernel_rfl) (by kernel_rfl) (by kernel_rfl) (fun _ _ _ h => h) hH (by rfl) ?hyv ?onw
                            case hyv =>
                              intro wz hSw
                              obtain ⟨z0, z1, z2⟩ := hSw
                              go_simp
                              try rfl
                            case onw =>
                              try simp only [Act.put, List.setIfInBounds_toArray, List.set_cons_zero, List.set_cons_succ]
                              refine' wpAnyL_take (i := 5) (oi := { dst := some 82, op := Op.load 2 (Operand.tmp 81), type := 2, pos := "size.go:76", after := #[{ on := 4, ground := Ground.data }], guard := none }) (v := _) rfl (by kernel_rfl) (by kernel_rfl) (by kernel_rfl) (by kernel_rfl) (fun _ _ _ h => h) hH (by rfl) ?hyv ?onw
                              case hyv =>
                                intro wz hSw
                                obtain ⟨z0, z1, z2⟩ := hSw
                                go_simp
                                try rfl
                              case onw =>
                                try simp only [Act.put, List.setIfInBounds_toArray, List.set_cons_zero, List.set_cons_succ]
                                refine' wpAnyL_take (i := 6) (oi := { dst := some 83, op := Op.fieldAddr 39 (Operand.tmp 12) 0, type := 0, pos := "size.go:76", after := #[], guard := none }) (v := _) rfl (by kernel_rfl) (by kernel_rfl) (by kernel_rfl) (by kernel_rfl) (fun _ _ _ h => h) hH (by rfl) ?hyv ?onw
                                case hyv =>
                                  intro wz hSw
                                  obtain ⟨z0, z1, z2⟩ := hSw
                                  go_simp
                                  try rfl
                                case onw =>
                                  try simp only [Act.put, List.setIfInBounds_toArray, List.set_cons_zero, List.set_cons_succ]
                                  refine' wpAnyL_take (i := 7) (oi := { dst := some 84, op := Op.load 2 (Operand.tmp 83), type := 2, pos := "size.go:76", after := #[{ on := 6, ground := Ground.data }], guard := none }) (v := _) rfl (by kernel_rfl) (by kernel_rfl) (by kernel_rfl) (by kernel_rfl) (fun _ _ _ h => h) hH (by rfl) ?hyv ?onw
                                  case hyv =>
                                    intro wz hSw
                                    obtain ⟨z0, z1, z2⟩ := hSw
                                    go_simp
                                    try rfl
                                  case onw =>
                                    try simp only [Act.put, List.setIfInBounds_toArray, List.set_cons_zero, List.set_cons_succ]
                                    refine' wpAnyL_take (i := 8) (oi := { dst := some 85, op := Op.binOp BinOp.mul 2 (Operand.tmp 82) (Operand.tmp 84) 2, type := 2, pos := "size.go:76", after := #[{ on := 5, ground := Ground.data }, { on := 7, ground := Ground.data }], guard := none }) (v := .int .i64 (t.1 * x.1)) rfl (by kernel_rfl) (by kernel_rfl) (by kernel_rfl) (by kernel_rfl) (fun _ _ _ h => h) hH (by rfl) ?hyv ?onw
                                    case hyv =>
                                      intro wz hSw
                                      obtain ⟨z0, z1, z2⟩ := hSw
                                      go_simp
                                      try simp only [hwrap]
                                      try rfl
                                    case onw =>
                                      try simp only [Act.put, List.setIfInBounds_toArray, List.set_cons_zero, List.set_cons_succ]
                                      refine' wpAnyL_take (i := 9) (oi := { dst := some 86, op := Op.fieldAddr 39 (Operand.tmp 12) 1, type := 0, pos := "size.go:76", after := #[], guard := none }) (v := _) rfl (by kernel_rfl) (by kernel_rfl) (by kernel_rfl) (by kernel_rfl) (fun _ _ _ h => h) hH (by rfl) ?hyv ?onw
                                      case hyv =>
                                        intro wz hSw
                                        obtain ⟨z0, z1, z2⟩ := hSw
                                        go_simp
                                        try rfl
                                      case onw =>
                                        try simp only [Act.put, List.setIfInBounds_toArray, List.set_cons_zero, List.set_cons_succ]
                                        refine' wpAnyL_take (i := 10) (oi := { dst := some 87, op := Op.load 9 (Operand.tmp 86), type := 9, pos := "size.go:76", after := #[{ on := 9, ground := Ground.data }], guard := none }) (v := _) rfl (by kernel_rfl) (by kernel_rfl) (by kernel_rfl) (by kernel_rfl) (fun _ _ _ h => h) hH (by rfl) ?hyv ?onw
                                        case hyv =>
                                          intro wz hSw
                                          obtain ⟨z0, z1, z2⟩ := hSw
                                          go_simp
                                          try rfl
                                        case onw =>
                                          try simp only [Act.put, List.setIfInBounds_toArray, List.set_cons_zero, List.set_cons_succ]
                                          refine' wpAnyL_take (i := 11) (oi := { dst := some 88, op := Op.build 39 #[(0, Operand.tmp 85), (1, Operand.tmp 87)], type := 39, pos := "size.go:76", after := #[{ on := 8, ground := Ground.data }, { on := 10, ground := Ground.data }], guard := none }) (v := _) rfl (by kernel_rfl) (by kernel_rfl) (by kernel_rfl) (by kernel_rfl) (fun _ _ _ h => h) hH (by rfl) ?hyv ?onw
                                          case hyv =>
                                            intro wz hSw
                                            obtain ⟨z0, z1, z2⟩ := hSw
                                            go_simp
                                            try rfl
                                          case onw =>
                                            try simp only [Act.put, List.setIfInBounds_toArray, List.set_cons_zero, List.set_cons_succ]
                                            refine wpAnyL_one (i := 12) (o := { dst := some 89, op := Op.buildSlice 23 1 #[(0, Operand.tmp 88)], type := 23, pos := "size.go:76", after := #[{ on := 11, ground := Ground.data }], guard := none }) rfl (by kernel_rfl) (by rfl) (fun K hK => ?_)
                                            go_simp
                                            rw [← hwL]
                                            refine hK.out _ _ (fun _ => hHL) ?_
                                            clear hK K
                                            try simp only [Act.put, List.setIfInBounds_toArray, List.set_cons_zero, List.set_cons_succ]
                                            refine wpAnyL_one (i := 13) (o := { dst := some 90, op := Op.call { callee := Callee.builtin Builtin.append, args := #[Operand.tmp 77, Operand.tmp 89], argTypes := #[23, 23] }, type := 23, pos := "size.go:76", after := #[{ on := 0, ground := Ground.data }, { on := 12, ground := Ground.data }], guard := none }) rfl (by kernel_rfl) (by rfl) (fun K hK => ?_)
                                            refine oper_cat _ _ rfl _ _ _ (by rfl) (by rfl) rc ?_
                                            refine hK.out _ _ (fun _ => hH8) ?_
                                            clear hK K
                                            try simp only [Act.put, List.setIfInBounds_toArray, List.set_cons_zero, List.set_cons_succ]
                                            refine' wpAnyL_take (i := 14) (oi := { dst := some 8, op := Op.assign (Operand.tmp 90), type := 23, pos := "size.go:76", after := #[{ on := 13, ground := Ground.data }, { on := 13, ground := Ground.chain }, { on := 0, ground := Ground.phase }, { on := 1, ground := Ground.phase }, { on := 2, ground := Ground.phase }, { on := 3, ground := Ground.phase }, { on := 4, ground := Ground.phase }, { on := 5, ground := Ground.phase }, { on := 6, ground := Ground.phase }, { on := 7, ground := Ground.phase }, { on := 8, ground := Ground.phase }, { on := 9, ground := Ground.phase }, { on := 10, ground := Ground.phase }, { on := 11, ground := Ground.phase }, { on := 12, ground := Ground.phase }, { on := 13, ground := Ground.phase }], guard := none }) (v := _) rfl (by kernel_rfl) (by kernel_rfl) (by kernel_rfl) (by kernel_rfl) (fun _ _ _ h => h) hH8 (by rfl) ?hyv ?onw
                                            case hyv =>
                                              intro wz hSw
                                              go_simp
                                              try rfl
                                            case onw =>
                                              try simp only [Act.put, List.setIfInBounds_toArray, List.set_cons_zero, List.set_cons_succ]
                                              refine wpAnyL_done (by kernel_rfl) ?_ _
                                              go_wp2_with fail
                                              go_roundg (gk - 1)
                                              case measure => omega
                                              case rel => exact ⟨j + 1, by go_num, by omega, by omega, hide (by rw [← HJS.out]; exact oc), HSJ2, bRB8⟩
          · simp only [if_neg hqL] at hpf
            have hqI : ¬ (q : Int) < (L.length : Int) := by omega
            have hw0 : wt names L t = [t] := by unfold wt; rw [hpf]
            have hb0 : wbad names L t = false := by unfold wbad; rw [hpf]
            have HWS2 := hide (by have := HWS.out; rw [hw0] at this; exact this)
            have HWA2 := hide (HWA.out.trans hb0)
            have ownR := HOW.out
            have hNb := fun k hk => (ownR.lt k hk).2
            clear hpf hw0 hb0 HWS HWA HOW hem HW3 hf
            go_upto_region 8 with (go_at_call 25; refine hidx.mono ?_; rintro e w' ⟨rfl, hww⟩; rw [hww]; clear hww)
            go_wp2_with (at_builtin; refine wpList_more kTerm rfl _ _ 23 39 rfl Try.underlying23 w1.heap.size wr.heap.size _ X (by rfl) ownR [.int .i64 t.1, .string t.2] t q1 (by rfl) hNb yR yR q2 q3 ?_; intro v8 w8 own8 b8 _ _)
            go_wp2_with fail
            go_roundg (gk - 1)
            case measure => omega
            case rel => exact ⟨i + 1, by go_num, by omega, by omega, hide (by rw [HWS2.out]; exact own8), HWA2, bR.trans b8⟩
end Go.Proofs.Ytjpjedigajiomaa
