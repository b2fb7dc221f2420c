/-
  DERIVED. THE WALK of size.With.
-/
import Derived.Test.YtjpjedigajiomaaSzI
namespace Go.Proofs.Ytjpjedigajiomaa
open Go.Shelf Go.RowKit Go.Lib Go.IntWalk Go.Maps
set_option linter.unusedVariables false
set_option linter.unusedSimpArgs false
set_option maxRecDepth 100000

/-- what With answers -/
def WithP (B : Nat) (w : World) (names : List ByteArray) (L : List (List Tm)) (s : List Tm) (u : Value) (c a : Int) : Prop :=
  c = wcode names L s ∧ ((c ≠ 0 ∧ u = .slice none 0 0 ∧ a = -1) ∨ (c = 0 ∧ a = 0 ∧ OwnL kTerm B w u (withL names L s)))
theorem wcode_zero {names : List ByteArray} {L : List (List Tm)} {s : List Tm} (h : wcode names L s = 0) : s.any (wbad names L) = false ∧ (withL names L s).length ≤ 1000 := by
  unfold wcode at h
  split at h
  · omega
  · rename_i h1
    split at h
    · omega
    · exact ⟨by simpa using h1, by omega⟩
theorem withL_take_len {names : List ByteArray} {L : List (List Tm)} {s : List Tm} (i : Nat) : (withL names L (s.take i)).length ≤ (withL names L s).length := by
  have h : withL names L s = withL names L (s.take i) ++ withL names L (s.drop i) := by
    unfold withL
    rw [← List.flatMap_append, List.take_append_drop]
  rw [h, List.length_append]
  omega

set_option maxHeartbeats 8000000 in
theorem with_any {ok okn okl : Nat → Prop} {w : World} {v vn vl : Value} {s : List Tm} {names : List ByteArray} {L : List (List Tm)} (hs : HTerms ok w v s) (hn : HNames okn w vn names) (hL : HSizes okl w vl L) (hsz : ∀ t ∈ s, t.2.size ≤ maxLen) (hsn : ∀ x ∈ names, x.size ≤ maxLen) (hLl : L.length ≤ 1000000) (hLs : ∀ m ∈ L, m.length ≤ 1000000) :
    Calls Try.prog 10 #[v, vn, vl] w fun e w' => ∃ u c a, e = .returned (.tuple #[u, .agg #[.int .i64 c, .int .i64 a]]) ∧ WithP w.heap.size w' names L s u c a ∧ Below w.heap.size w w' := by
  obtain ⟨w1, hw1⟩ : ∃ w1, w1 = w.alloc (.cells #[.int .i64 0, .int .i64 0] 30 (0, 0)) := ⟨_, rfl⟩
  have b1 : Below w.heap.size w w1 := by rw [hw1]; exact (Below.refl _ _).alloc (Nat.le_refl _) _
  have K1 : w1.heap[w.heap.size]? = some (.cells #[.int .i64 0, .int .i64 0] 30 (0, 0)) := by rw [hw1]; exact heap_new _ _
  have hpl := placesOf_any (cnt := L.length) (hn.keep (w' := w1) b1.size (fun i _ hl => b1.block i hl)) hsn (by omega)
  obtain ⟨ao, cap, rfl, hc1, hc2, hat⟩ := hs.at
  obtain ⟨aL, cL, rfl, hL1, hL2, hLat⟩ := hL.at
  obtain ⟨an, cn, rfl, hn1, hn2, _⟩ := hn.at
  unfold maxLen at hc2 hL2
  have HS := hide hs
  have HL := hide hL
  clear hs hL hn hat hLat
  go_enter Try.func10, Try.ntmps10
  go_upto_region 1 with fail
  rw [← hw1]
  clear hw1
  go_wp2_with fail
  refine hpl.mono ?_
  rintro e w2 ⟨f, rfl, hf, b2⟩
  clear hpl
  have B2 := b1.trans (b2.mono b1.size)
  have K2 := (b2.block _ (lt_of K1)).trans K1
  have hcode := codeOfWith_any (HS.out.keep (w' := w2) B2.size (fun i _ hl => B2.block i hl)) (HL.out.keep (w' := w2) B2.size (fun i _ hl => B2.block i hl)) hf hsz hLl hLs
  have HF := hide hf
  clear hf b1 K1 b2
  go_wp2_with fail
  refine hcode.mono ?_
  rintro e w3 ⟨rfl, b3⟩
  clear hcode
  have B3 := B2.trans (b3.mono B2.size)
  have K3 := (b3.block _ (lt_of K2)).trans K2
  have HF3 := hide (HF.out.below b3)
  have HS3 := hide (HS.out.keep (w' := w3) B3.size (fun i _ hl => B3.block i hl))
  have HL3 := hide (HL.out.keep (w' := w3) B3.size (fun i _ hl => B3.block i hl))
  have y3 := lt_of K3
  clear B2 K2 HF b3
  obtain ⟨c, hc⟩ : ∃ c, c = wcode names L s := ⟨_, rfl⟩
  rw [← hc]
  have HCC := hide hc
  clear hc
  by_cases hc0 : c = 0
  · subst hc0
    have hz := wcode_zero HCC.out.symm
    have HZ1 := hide hz.1
    have HZ2 := hide hz.2
    clear hz
    go_wp2_with fail
    go_loopg [10, 12, 13, 14, 29] s.length (fun gh s10 _ _ _ s29 wr => ∃ (i : Nat), s29 = .int .i64 (i : Int) ∧ i ≤ s.length ∧ s.length ≤ gh + i ∧ Hid (OwnL kTerm w3.heap.size wr s10 (withL names L (s.take i))) ∧ Below w3.heap.size w3 wr)
    case atStart => exact ⟨0, rfl, by omega, by omega, hide (by simpa [withL] using OwnL.nil), Below.refl _ _⟩
    case round =>
      obtain ⟨i, rfl, his, hgi, HO, bR⟩ := hrel
      have yR := bR.size
      have KR := (bR.block _ y3).trans K3
      have BR := B3.trans (bR.mono B3.size)
      by_cases hlt : i < s.length
      case neg =>
        have hge : ¬ (i : Int) < (s.length : Int) := by omega
        have hie : i = s.length := by omega
        have k0 := cell_of KR 0
        have k1 := cell_of KR 1
        have fk := fun o => free_of KR o
        simp at k0 k1
        have ho := HO.out
        rw [hie, List.take_length] at ho
        have HO2 := hide ho
        clear ho
        go_wp2
        have own5 := ((HO2.out.set (p := ⟨w.heap.size, 0, none⟩) y3 (.int .i64 0)).set (p := ⟨w.heap.size, 1, none⟩) y3 (.int .i64 0)).lower (B := w.heap.size) (by omega)
        exact bodyPost_ret (v := .tuple #[_, .agg #[.int .i64 0, .int .i64 0]]) (by simp [results, Try.results10, go_sem, k0, k1]) rfl ⟨_, _, _, rfl, ⟨HCC.out, .inr ⟨rfl, rfl, own5⟩⟩, (BR.setCell (p := ⟨w.heap.size, 0, none⟩) (Nat.le_refl _) _).setCell (p := ⟨w.heap.size, 1, none⟩) (Nat.le_refl _) _⟩
      case pos =>
        have hltI : (i : Int) < (s.length : Int) := by omega
        obtain ⟨ao', cap', ev, _, _, hatR⟩ := (HS3.out.keep (w' := wr) yR (fun i hi hl => bR.block i hl)).at
        injection ev with ev1 ev2 ev3
        subst ev1
        obtain ⟨b, o, rfl, hb, c0, c1⟩ := hatR i hlt
        clear hatR ev2 ev3
        have hszi := hsz s[i] (List.getElem_mem hlt)
        have hws := withL_step (names := names) (L := L) hlt
        have hbi : wbad names L s[i] = false := by
          have := HZ1.out
          rw [List.any_eq_false] at this
          have h2 := this s[i] (List.getElem_mem hlt)
          simpa using h2
        have hpl := withL_take_len (names := names) (L := L) (s := s) (i + 1)
        rw [hws, List.length_append] at hpl
        have hpl2 : (withL names L (s.take i)).length + (wt names L s[i]).length ≤ 1000 := by have := HZ2.out; omega
        generalize s[i] = t at c0 c1 hszi hws hbi hpl2
        have HWS := hide hws
        clear hws hpl
        go_upto_region 9 with fail
        obtain ⟨wA, hwA⟩ : ∃ wA, wA = wr.alloc (.cells #[.int .i64 t.1, .string t.2] 39 (0, 0)) := ⟨_, rfl⟩
        have bA : Below wr.heap.size wr wA := by rw [hwA]; exact (Below.refl _ _).alloc (Nat.le_refl _) _
        have KA : wA.heap[wr.heap.size]? = some (.cells #[.int .i64 t.1, .string t.2] 39 (0, 0)) := by rw [hwA]; exact heap_new _ _
        rw [← hwA]
        clear hwA c0 c1
        have d0 := cell_of KA 0
        have d1 := cell_of KA 1
        simp at d0 d1
        have bRA := bR.trans (bA.mono yR)
        obtain ⟨Bf, Mf, nf, Df, rfl, _, _, hBf, hownf, hDf⟩ := (HF3.out.below bRA).out
        have hcall := place36 hBf hownf hDf hszi
        clear hBf hownf hDf
        have ownA := HO.out.below bA
        have hbox := fun k hk => (HO.out.lt k hk).2
        have yA2 := bRA.size
        obtain ⟨ax, cx, hvx, _, _⟩ := HO.out.form
        subst hvx
        obtain ⟨X, hX⟩ : ∃ X, X = withL names L (s.take i) := ⟨_, rfl⟩
        rw [← hX] at ownA hpl2 HWS hbox ⊢
        clear hX HO
        cases hp : plc names L.length t.2.data.toList with
        | none =>
          have hw0 : wt names L t = [t] := by unfold wt; rw [hp]
          rw [hw0] at hpl2 HWS
          rw [hp] at hcall
          simp only [Option.getD_none, Option.isSome_none, List.length_singleton] at hcall hpl2
          have hNb := fun k hk => (ownA.lt k hk).2
          have q1 : kTerm.E (fun i => wA.heap.size ≤ i) wA [.int .i64 t.1, .string t.2] t := rfl
          have q2 : (X.length + 1) * kTerm.bytes ≤ 140737488355328 := by show (X.length + 1) * 24 ≤ _; omega
          have q3 : X.length + 1 ≤ maxLen := by unfold maxLen; omega
          clear hp hw0 hbi KA
          go_upto_region 10 with (go_at_call 36; refine hcall.mono ?_; rintro e w' ⟨rfl, hww⟩; rw [hww]; clear hww)
          go_wp2_with (at_builtin; refine wpList_more kTerm rfl _ _ 23 39 rfl Try.underlying23 w3.heap.size wA.heap.size _ X (by rfl) ownA [.int .i64 t.1, .string t.2] t q1 (by rfl) hNb yA2 yA2 q2 q3 ?_; intro v8 w8 own8 b8 _ _)
          go_wp2_with fail
          go_roundg (gk - 1)
          case measure => omega
          case rel => exact ⟨i + 1, by go_num, by omega, by omega, hide (by rw [HWS.out]; exact own8), bRA.trans b8⟩
        | some q =>
          have hq := (plc_lt hp).1
          have hwb := wbad_some (L := L) hp
          have hw0 : wt names L t = (L.getD q []).map (times t.1) := by unfold wt; rw [hp]
          have hgd : L.getD q [] = L[q] := by simp [hq]
          rw [hw0] at hpl2 HWS
          rw [hgd] at hpl2 HWS hwb
          rw [hp] at hcall
          simp only [Option.getD_some, Option.isSome_some, List.length_map] at hcall hpl2
          obtain ⟨aL', cL', ev, _, _, hLat⟩ := ((HL3.out.wide (ok' := fun i => i < w3.heap.size) (fun i _ hl => hl)).keep (w' := wA) bRA.size (fun i hi hl => bRA.block i hl)).at
          injection ev with ev1 ev2 ev3
          subst ev1
          obtain ⟨bL, oL, au, nu, cu, rfl, hbL, cL0, hTu⟩ := hLat q hq
          obtain ⟨au', cu', ev4, hu1, hu2, _⟩ := hTu.at
          injection ev4 with ev5 ev6 ev7
          subst ev6
          have hbL3 : bL < w3.heap.size := by
            obtain ⟨aL'', cL'', ev8, _, _, hLat8⟩ := HL3.out.at
            injection ev8 with ev9 _ _
            obtain ⟨bx, ox, _, _, _, e8, hb8, _⟩ := hLat8 q hq
            rw [← ev9] at e8
            injection e8 with e8
            injection e8 with e8 _ _
            rw [e8]; exact hb8
          have hsmall : ∀ u ∈ L[q], small t.1 = true ∧ small u.1 = true := by
            rw [hwb, Bool.or_eq_false_iff, List.any_eq_false] at hbi
            intro u hu
            have h1 : 0 < (L[q]).length := List.length_pos_of_mem hu
            exact ⟨by simpa [h1] using hbi.1, by simpa using hbi.2 u hu⟩
          generalize hm0 : L[q] = m at cL0 hTu hpl2 HWS hsmall
          clear hm0 hLat hp hw0 hgd ev2 ev3 ev5 ev7 hwb hbi
          have hqI : (q : Int) < (L.length : Int) := by omega
          have yAbox : wr.heap.size < wA.drew.heap.size := lt_of KA
          have hboxne : some wr.heap.size ≠ (Value.slice ax X.length cx).ownBlock := fun e => by
            have := hbox wr.heap.size e.symm
            omega
          have hbLB : bL < w3.heap.size := hbL3
          have d0d : wA.drew.cell? ⟨wr.heap.size, 0, none⟩ = some (.int .i64 t.1) := d0
          have cLd : wA.drew.cell? ⟨bL, oL + q, none⟩ = some (.slice au m.length cu) := cL0
          have htimes := appendTimes_any (B := w3.heap.size) (w := wA.drew) (n := t.1) (ownA.below ((Below.refl _ wA).drew)) (hTu.keep (w' := wA.drew) (Nat.le_refl _) (fun _ _ _ => rfl)) (fun i hi => hi) yA2 hsmall (by omega)
          clear ownA hTu hsmall
          go_upto_region 11 with (go_at_call 36; refine hcall.mono ?_; rintro e w' ⟨rfl, hww⟩; rw [hww]; clear hww)
          refine wp_region_late (fun w' => w'.cell? ⟨wr.heap.size, 0, none⟩ = some (.int .i64 t.1) ∧ w'.cell? ⟨bL, oL + q, none⟩ = some (.slice au m.length cu)) (fun _ => false) (by kernel_rfl) ?_
          have hH := And.intro d0d cLd
          refine' wpAnyL_take (i := 0) (oi := { dst := some 41, op := Op.move (Operand.tmp 10), type := 23, pos := "size.go:43", after := #[], guard := none }) (v := _) rfl (by kernel_rfl) (by kernel_rfl) (by kernel_rfl) (by kernel_rfl) (fun _ _ _ h => h) hH (by rfl) ?hyv ?onw
          case hyv =>
            intro wz hSw
            obtain ⟨z0, z1⟩ := hSw
            go_simp
            try rfl
          case onw =>
            try simp only [Act.put, List.setIfInBounds_toArray, List.set_cons_zero, List.set_cons_succ]
            refine' wpAnyL_take (i := 1) (oi := { dst := some 42, op := Op.fieldAddr 39 (Operand.tmp 12) 0, type := 0, pos := "size.go:43", after := #[], guard := none }) (v := _) rfl (by kernel_rfl) (by kernel_rfl) (by kernel_rfl) (by kernel_rfl) (fun _ _ _ h => h) hH (by rfl) ?hyv ?onw
            case hyv =>
              intro wz hSw
              obtain ⟨z0, z1⟩ := hSw
              go_simp
              try rfl
            case onw =>
              try simp only [Act.put, List.setIfInBounds_toArray, List.set_cons_zero, List.set_cons_succ]
              refine' wpAnyL_take (i := 2) (oi := { dst := some 43, op := Op.load 2 (Operand.tmp 42), type := 2, pos := "size.go:43", after := #[{ on := 1, ground := Ground.data }], guard := none }) (v := _) rfl (by kernel_rfl) (by kernel_rfl) (by kernel_rfl) (by kernel_rfl) (fun _ _ _ h => h) hH (by rfl) ?hyv ?onw
              case hyv =>
                intro wz hSw
                obtain ⟨z0, z1⟩ := hSw
                go_simp
                try rfl
              case onw =>
                try simp only [Act.put, List.setIfInBounds_toArray, List.set_cons_zero, List.set_cons_succ]
                refine' wpAnyL_take (i := 3) (oi := { dst := some 44, op := Op.move (Operand.tmp 2), type := 25, pos := "size.go:43", after := #[], guard := none }) (v := _) rfl (by kernel_rfl) (by kernel_rfl) (by kernel_rfl) (by kernel_rfl) (fun _ _ _ h => h) hH (by rfl) ?hyv ?onw
                case hyv =>
                  intro wz hSw
                  obtain ⟨z0, z1⟩ := hSw
                  go_simp
                  try rfl
                case onw =>
                  try simp only [Act.put, List.setIfInBounds_toArray, List.set_cons_zero, List.set_cons_succ]
                  refine' wpAnyL_take (i := 4) (oi := { dst := some 45, op := Op.move (Operand.tmp 13), type := 3, pos := "size.go:43", after := #[], guard := none }) (v := _) rfl (by kernel_rfl) (by kernel_rfl) (by kernel_rfl) (by kernel_rfl) (fun _ _ _ h => h) hH (by rfl) ?hyv ?onw
                  case hyv =>
                    intro wz hSw
                    obtain ⟨z0, z1⟩ := hSw
                    go_simp
                    try rfl
                  case onw =>
                    try simp only [Act.put, List.setIfInBounds_toArray, List.set_cons_zero, List.set_cons_succ]
                    refine' wpAnyL_take (i := 5) (oi := { dst := some 46, op := Op.indexAddr 25 (Operand.tmp 44) (Operand.tmp 45), type := 0, pos := "size.go:43", after := #[{ on := 3, ground := Ground.data }, { on := 4, ground := Ground.data }], guard := none }) (v := _) rfl (by kernel_rfl) (by kernel_rfl) (by kernel_rfl) (by kernel_rfl) (fun _ _ _ h => h) hH (by rfl) ?hyv ?onw
                    case hyv =>
                      intro wz hSw
                      obtain ⟨z0, z1⟩ := hSw
                      go_simp
                      try rfl
                    case onw =>
                      try simp only [Act.put, List.setIfInBounds_toArray, List.set_cons_zero, List.set_cons_succ]
                      refine' wpAnyL_take (i := 6) (oi := { dst := some 47, op := Op.load 23 (Operand.tmp 46), type := 23, pos := "size.go:43", after := #[{ on := 5, ground := Ground.data }], guard := none }) (v := _) rfl (by kernel_rfl) (by kernel_rfl) (by kernel_rfl) (by kernel_rfl) (fun _ _ _ h => h) hH (by rfl) ?hyv ?onw
                      case hyv =>
                        intro wz hSw
                        obtain ⟨z0, z1⟩ := hSw
                        go_simp
                        try rfl
                      case onw =>
                        try simp only [Act.put, List.setIfInBounds_toArray, List.set_cons_zero, List.set_cons_succ]
                        refine wpAnyL_one (i := 7) (o := { dst := some 48, op := Op.call { callee := Callee.value (Operand.func 24), args := #[Operand.tmp 41, Operand.tmp 43, Operand.tmp 47], argTypes := #[23, 2, 23] }, type := 23, pos := "size.go:43", after := #[{ on := 0, ground := Ground.data }, { on := 2, ground := Ground.data }, { on := 6, ground := Ground.data }], guard := none }) rfl (by kernel_rfl) (by rfl) (fun K hK => ?_)
                        go_simp
                        refine htimes.mono ?_
                        rintro e w5 ⟨v5, rfl, own5, b5, kp5⟩
                        refine hK.out _ _ (fun _ => ⟨?h5a, ?h5b⟩) ?_
                        case h5a => exact (World.cell?_of_block (w := wA.drew) (kp5 _ yAbox hboxne)).trans d0d
                        case h5b => exact (World.cell?_of_block (w := wA.drew) (b5.block _ hbLB)).trans cLd
                        clear hK K
                        try simp only [Act.put, List.setIfInBounds_toArray, List.set_cons_zero, List.set_cons_succ]
                        have hH5 := And.intro ((World.cell?_of_block (w := wA.drew) (a := ⟨wr.heap.size, 0, none⟩) (kp5 _ yAbox hboxne)).trans d0d) ((World.cell?_of_block (w := wA.drew) (a := ⟨bL, oL + q, none⟩) (b5.block _ hbLB)).trans cLd)
                        refine' wpAnyL_take (i := 8) (oi := { dst := some 10, op := Op.assign (Operand.tmp 48), type := 23, pos := "size.go:43", after := #[{ on := 7, ground := Ground.data }, { on := 7, ground := Ground.chain }, { on := 0, ground := Ground.phase }, { on := 1, ground := Ground.phase }, { on := 2, ground := Ground.phase }, { on := 3, ground := Ground.phase }, { on := 4, ground := Ground.phase }, { on := 5, ground := Ground.phase }, { on := 6, ground := Ground.phase }, { on := 7, ground := Ground.phase }], guard := none }) (v := _) rfl (by kernel_rfl) (by kernel_rfl) (by kernel_rfl) (by kernel_rfl) (fun _ _ _ h => h) hH5 (by rfl) ?hyv ?onw
                        case hyv =>
                          intro wz hSw
                          go_simp
                          try rfl
                        case onw =>
                          try simp only [Act.put, List.setIfInBounds_toArray, List.set_cons_zero, List.set_cons_succ]
                          refine wpAnyL_done (by kernel_rfl) ?_ _
                          go_wp2_with fail
                          go_roundg (gk - 1)
                          case measure => omega
                          case rel => exact ⟨i + 1, by go_num, by omega, by omega, hide (by rw [HWS.out]; exact own5), bRA.trans ⟨b5.os, b5.tape, b5.output, b5.size, b5.block⟩⟩
  · have hne : (c != 0) = true := by simpa using hc0
    have k0 := cell_of K3 0
    have k1 := cell_of K3 1
    have fk := fun o => free_of K3 o
    simp at k0 k1
    go_wp2
    exact bodyPost_ret (v := .tuple #[.slice none 0 0, .agg #[.int .i64 c, .int .i64 (-1)]]) (by simp [results, Try.results10, go_sem, k0, k1]) rfl ⟨_, _, _, rfl, ⟨HCC.out, .inl ⟨hc0, rfl, rfl⟩⟩, (B3.setCell (p := ⟨w.heap.size, 0, none⟩) (Nat.le_refl _) _).setCell (p := ⟨w.heap.size, 1, none⟩) (Nat.le_refl _) _⟩
end Go.Proofs.Ytjpjedigajiomaa
