import Derived.Test.YtgjdkgkgbmbffaaDoorJ19
import Derived.Test.YtgjdkgkgbmbffaaDoorJ18
import Derived.Test.YtgjdkgkgbmbffaaDoorJ13
import Derived.WalkKit
import Derived.WalkSpells
import Derived.IntWalk
import Derived.Deep.Cut
import Derived.Deep.LoopGhost
import Derived.Laws.Cover1
import Derived.Lib.Hide
set_option linter.unusedVariables false
set_option linter.unusedSimpArgs false
set_option maxHeartbeats 64000000
set_option maxRecDepth 100000
namespace Go.Proofs.YtgjdkgkgbmbffaaDoor
open Go.RowKit Go.IntWalk
set_option linter.unusedVariables false
set_option linter.unusedSimpArgs false
theorem flat_take {D : Nat → List Value} {k : Nat} : ∀ n m, m ≤ n → (∀ i, i < n → (D i).length = k) → (flat D n).take (m * k) = flat D m
  | n, m, h, hD => by
    induction n with
    | zero =>
      obtain rfl : m = 0 := by omega
      simp [flat]
    | succ n ih =>
      by_cases e : m = n + 1
      · subst e
        rw [List.take_of_length_le]
        rw [flat_len (n + 1) hD]
        exact Nat.le_refl _
      · rw [flat, List.take_append_of_le_length]
        · exact ih (by omega) fun i hi => hD i (by omega)
        · rw [flat_len n fun i hi => hD i (by omega)]
          exact Nat.mul_le_mul_right _ (by omega)
theorem OwnL.cut {α : Type} {T : Kind α} {B : Nat} {w : World} {a : Option Addr} {n c m : Nat} {l : List α} (h : OwnL T B w (.slice a n c) l) (hm : m ≤ l.length) : OwnL T B w (.slice a m c) (l.take m) := by
  obtain ⟨D, ⟨h1, h2⟩, h3⟩ := h
  have hlen : (l.take m).length = m := by rw [List.length_take]; omega
  have hD : ∀ i, i < l.length → (D i).length = T.k := fun i hi => T.len (h3 i hi)
  have hft := flat_take l.length m hm hD
  refine ⟨D, ⟨?_, ?_⟩, fun j hj => ?_⟩
  · rw [hlen]
    exact flat_len m fun i hi => hD i (by omega)
  · rw [hlen]
    rcases h2 with ⟨e1, e2⟩ | ⟨g, cap, cur, e1, e2, e3, e4, e5, e6, e7⟩
    · injection e1 with q1 q2 q3
      subst q1 q3
      have : m = 0 := by omega
      exact .inl ⟨by rw [this], this⟩
    · injection e1 with q1 q2 q3
      subst q1 q3
      refine .inr ⟨g, c, cur, rfl, e2, e3, by omega, e5, e6, ?_⟩
      rw [← hft, ← e7, List.take_take, Nat.min_eq_left (Nat.mul_le_mul_right _ hm)]
  · have hj2 : j < l.length := by rw [hlen] at hj; omega
    rw [List.getElem_take]
    refine T.wide (h3 j hj2) fun i hi _ => ?_
    cases a <;> exact hi
theorem OwnL.made {w : World} {B : Nat} (hb : B ≤ w.heap.size) (cur : Array Value) (cap : Nat) (hm : cap ≤ maxLen) (hs : cur.size = cap * 1) : OwnL kLong B (w.alloc (.cells cur 2 (0, 0))) (.slice (some ⟨w.heap.size, 0, none⟩) 0 cap) [] :=
  ⟨fun _ => [], World.ownsRow_made w cur cap hb hm hs, fun j h => absurd h (Nat.not_lt_zero _)⟩
theorem make_longs (l c : Nat) (hc : l ≤ c) (hn : c ≤ 1000000) (V : World) : (Instr.makeSlice 40 (.int .i64 (l : Int)) (.int .i64 (c : Int))).run Tryd.prog V = .ok (.slice (some ⟨V.heap.size, 0, none⟩) l c) (V.alloc (.cells ((List.replicate c (0 : Int)).map (Value.int .i64)).toArray 2 (0, 0))) := by
  obtain ⟨i0, hi, hz0, hz1, hz2⟩ := info_parts Tryd.infoLg
  have h := run_make (P := Tryd.prog) V 40 2 i0 (.int .i64 0) Tryd.underlying40 hi hz0 .i64 .i64 (l : Int) (c : Int) (by omega) (by omega) (by rw [hz2]; simp; omega) (by omega)
  have e : madeCells (Value.int .i64 0).cells (((c : Int)).toNat * i0.size) = ((List.replicate c (0 : Int)).map (Value.int .i64)).toArray := by
    rw [hz1]
    apply Array.ext_getElem?
    intro j
    by_cases hj : j < c
    · simp [madeCells, Value.cells, hj, Nat.mod_one]
    · simp [madeCells, Value.cells, hj]
  rw [e] at h
  simpa using h
set_option maxHeartbeats 16000000 in
theorem tree47_any {w : World} {mb : Nat} {c : Int} {vP vG vS : Value} {aC : Option Addr} {nC cC : Nat} {okC : Nat → Prop} {M : List Int} (hm : w.heap[mb]? = some (.cells #[.int .i64 c, vP, vG, vS, .slice aC nC cC] 64 (0, 0))) (hC : HInts okC w (.slice aC nC cC) M) {okE : Nat → Prop} {u : Value} {E : List Pu} (hE : HPu okE w u E) {n0 : Int} (hf : Lo.Fit c n0 E) (hn0 : n0 ≤ 300) (hML : (M.length : Int) = c) (kk : Nat) (hkk : (kk : Int) < n0) :
    Calls Tryd.prog 47 #[.pointer (some ⟨mb, 0, none⟩), u, .int .i64 (kk : Int)] w fun e w' => e = .returned (.int .i64 (Lo.tree M (kk : Int) E)) ∧ Below w.heap.size w w' := by
  obtain ⟨aE, cE, rfl, hc1, hc2, -⟩ := hE.at
  unfold maxLen at hc2
  obtain ⟨R, hR⟩ : ∃ R, R = Lo.tree M (kk : Int) E := ⟨_, rfl⟩
  rw [← hR]
  have HR := hide hR
  have HF := hide hf
  obtain ⟨ne, hn⟩ : ∃ ne, ne = E.length := ⟨_, rfl⟩
  have hEl : ne ≤ 24 := by rw [hn]; exact hf.len
  have HPos := hide hf.pos
  rw [← hn] at hc1
  have HE := hide hE
  have HMM := hide hm
  have HC := hide hC
  have HN := hide hn
  have HNN := hide (And.intro hn0 hkk)
  have HML := hide hML
  clear hR hf hm hC hn0 hkk hML
  rw [← hn] at hE ⊢
  clear hE hn
  go_enter Tryd.func47, Tryd.ntmps47
  obtain ⟨LZ, hLZ⟩ : ∃ LZ, LZ = ((List.replicate 24 (0 : Int)).map (Value.int .i64)).toArray := ⟨_, rfl⟩
  have hmk : (Instr.makeSlice 40 (.int .i64 0) (.int .i64 24)).run Tryd.prog w = .ok (.slice (some ⟨w.heap.size, 0, none⟩) 0 24) (w.alloc (.cells LZ 2 (0, 0))) := by rw [hLZ]; exact make_longs 0 24 (by omega) (by omega) w
  have own0 : OwnL kLong w.heap.size (w.alloc (.cells LZ 2 (0, 0))) (.slice (some ⟨w.heap.size, 0, none⟩) 0 24) [] := OwnL.made (Nat.le_refl _) _ 24 (by decide) (by rw [hLZ]; simp)
  have bS : Below w.heap.size w (w.alloc (.cells LZ 2 (0, 0))) := (Below.refl _ _).alloc (Nat.le_refl _) _
  clear hLZ
  have HO0 := hide own0
  clear own0
  go_upto_region 2 with fail
  clear hmk
  generalize w.alloc (.cells LZ 2 (0, 0)) = w1 at bS HO0 ⊢
  go_wp2_with fail
  go_loopg [7, 14] ne (fun k sv v wr => ∃ (i : Nat) (st : List Int), i ≤ ne ∧ k = ne - i ∧ v = .int .i64 (i : Nat) ∧ Hid (st = Lo.stk M (kk : Int) E i) ∧ Hid (OwnL kLong w.heap.size wr sv st) ∧ Below w.heap.size w wr)
  case atStart => exact ⟨0, [], Nat.zero_le _, rfl, rfl, hide (Lo.stk_zero _ _ _).symm, HO0, bS⟩
  case round =>
    clear HO0
    obtain ⟨i, st, hi, rfl, rfl, HST, HOW, hbr⟩ := hrel
    obtain ⟨sa, sc, rfl, hs1, hs2⟩ := HOW.out.form
    unfold maxLen at hs2
    by_cases hlt : i < ne
    case neg =>
      have hin : i = ne := by omega
      subst hin
      have hF : 0 < st.length := by
        have := HF.out.fin M (kk : Int)
        rw [HST.out, HN.out, this]
        decide
      obtain ⟨ao2, cap2, ev2, _, _, hat⟩ := (longs_row HOW.out.row).at
      obtain ⟨bs, os, ea, hbs, hcell⟩ := hat 0 hF
      injection ev2 with q1 q2 q3
      subst q1 q3
      subst ea
      simp at hcell
      have HZ2 := hide (show R = st[0] by
        have e : Lo.tree M (kk : Int) E = st.getD 0 0 := by unfold Lo.tree; rw [← HN.out, ← HST.out]
        rw [HR.out, e, List.getD_eq_getElem?_getD, List.getElem?_eq_getElem hF]; rfl)
      generalize st[0] = y at hcell HZ2
      clear hat HOW q2 HST
      generalize st.length = sl at *
      go_wp2
      go_ret
      exact ⟨by rw [HZ2.out]; rfl, hbr⟩
    case pos =>
      have hil : i < E.length := by have := HN.out; omega
      obtain ⟨f1, f2, f3⟩ := HF.out.at' M (kk : Int) i hil
      have hss := Lo.stk_succ M (kk : Int) E hil
      obtain ⟨ao', cap', eqs, -, -, hat2⟩ := (HE.out.under hbr).at
      injection eqs with q1 q2 q3
      subst q1
      obtain ⟨bb, o, rfl, hb, e0, e1, e2, e3⟩ := hat2 i hil
      obtain ⟨y, hy⟩ : ∃ y, y = E[i] := ⟨_, rfl⟩
      rw [← hy] at e0 e1 e2 e3 f1 f2 hss
      rw [← HST.out] at f1 f3 hss
      have bA : Below wr.heap.size wr (wr.alloc (.cells #[.int .i64 y.op, .int .i64 y.k, .int .i64 y.v, .int .i64 y.n] 71 (0, 0))) := (Below.refl _ _).alloc (Nat.le_refl _) _
      have BA := hbr.trans (bA.mono hbr.size)
      have kV := heap_new wr (.cells #[.int .i64 y.op, .int .i64 y.k, .int .i64 y.v, .int .i64 y.n] 71 (0, 0))
      have HO1 := hide (HOW.out.below bA)
      have HF2 := hide f2
      have HSS := hide hss
      have HSL := hide f3
      have htk := Lo.tk_nonneg y.op
      clear hat2 q2 q3 hy HST HOW f2 hss f3
      go_upto_region 5 with fail
      generalize wr.alloc (.cells #[.int .i64 y.op, .int .i64 y.k, .int .i64 y.v, .int .i64 y.n] 71 (0, 0)) = wa at bA BA kV HO1 ⊢
      have v0 := cell_of kV 0
      have v1 := cell_of kV 1
      have v2 := cell_of kV 2
      have v3 := cell_of kV 3
      simp at v0 v1 v2 v3
      clear e0 e1 e2 e3
      go_wp2_with fail
      refine (taken50_any _ _ _ _ _).mono ?_
      rintro e w4 ⟨rfl, b4⟩
      have B4 := BA.trans (b4.mono BA.size)
      have kV4 := (b4.block _ (lt_of kV)).trans kV
      have HO4 := hide (HO1.out.below b4)
      clear v0 v1 v2 v3 kV HO1
      obtain ⟨m, hm⟩ : ∃ m, st.length - (Lo.tk y.op).toNat = m := ⟨_, rfl⟩
      have HDL := hide (show ((st.drop m).length : Int) = Lo.tk y.op by rw [List.length_drop]; omega)
      have HTL := hide (show (st.take m).length = m by rw [List.length_take]; omega)
      have HSS2 := hide (show Lo.stk M (kk : Int) E (i + 1) = st.take m ++ [Lo.stepV M y (st.drop m) (kk : Int)] by rw [HSS.out]; unfold Lo.stp Lo.rest; rw [hm])
      have HML2 := hide (show m ≤ 24 by have := HSL.out; omega)
      have hsl : (st.length : Int) - (Lo.tk y.op : Int) = (m : Int) := by omega
      have hms : m ≤ st.length := by omega
      have HTK := HO4.out.cut (m := m) hms
      have HDR := row_tail (c := m) HO4.out.row hms
      have HTK2 := hide HTK
      have HDR2 := hide HDR
      clear HSS hm HTK HDR HO4 f1 htk
      have q5 : ((st.take m).length + 1) * 8 ≤ 140737488355328 := by rw [HTL.out]; have := HML2.out; omega
      have q6 : (st.take m).length + 1 ≤ maxLen := by rw [HTL.out]; have := HML2.out; unfold maxLen; omega
      have hct := fun (W : World) (b : Below w.heap.size w W) (ht : HInts (fun i => w.heap.size ≤ i) W (sliced sa m st.length sc 1) (st.drop m)) => madeBy53_any ((b.block _ (lt_of HMM.out)).trans HMM.out) (HC.out.under b) ht y HDL.out n0 HF2.out HML.out kk HNN.out.2 HNN.out.1
      generalize Lo.stepV M y (st.drop m) (kk : Int) = yv at hct HSS2
      generalize st.length = sl at hsl hms hs1 HDR2 hct ⊢
      generalize Lo.tk y.op = tn at hsl HDL ⊢
      have hmc : m ≤ sc := by omega
      obtain ⟨sda, sdn, sdc, hsd⟩ : ∃ sda sdn sdc, sliced sa m sl sc 1 = .slice sda sdn sdc := ⟨_, _, _, rfl⟩
      have hD3 := HDR2.out
      have e11 : kLong.k = 1 := rfl
      rw [e11, hsd] at hD3
      rw [hsd] at hct
      unfold sliced at hsd
      rw [Nat.mul_one] at hsd
      have HDR3 := hide hD3
      have HSD := hide hsd
      have HCT := hide hct
      clear hct hD3 e11 hsd HDR2
      have zB := B4.size
      go_upto_region 6 with fail
      refine wp_region_late (fun w' => Below w.heap.size w4 w') (fun _ => false) (by kernel_rfl) ?_
      have hH0 : Below w.heap.size w4 w4.drew := (Below.refl _ _).drew
      have kP0 : w4.drew.heap[wr.heap.size]? = some (.cells #[.int .i64 y.op, .int .i64 y.k, .int .i64 y.v, .int .i64 y.n] 71 (0, 0)) := kV4
      have ownT : OwnL kLong w.heap.size w4.drew (.slice sa m sc) (st.take m) := HTK2.out
      have rowD : HRow kLong (fun i => w.heap.size ≤ i) w4.drew (.slice sda sdn sdc) (st.drop m) := HDR3.out
      generalize w4.drew = wd0 at hH0 kP0 ownT rowD ⊢
      refine' wpAnyL_take (i := 0) (oi := ⟨some 23, _, _, _, _, _⟩) (v := _) rfl (by kernel_rfl) (by kernel_rfl) (by kernel_rfl) (by kernel_rfl) (fun _ _ _ h => h) hH0 (by rfl) ?hyv ?onw
      case hyv =>
        intro wz hSw
        go_simp
        try rfl
      case onw =>
        try simp only [Act.put, List.setIfInBounds_toArray, List.set_cons_zero, List.set_cons_succ]
        refine' wpAnyL_take (i := 1) (oi := ⟨some 24, _, _, _, _, _⟩) (v := _) rfl (by kernel_rfl) (by kernel_rfl) (by kernel_rfl) (by kernel_rfl) (fun _ _ _ h => h) hH0 (by rfl) ?hyv ?onw
        case hyv =>
          intro wz hSw
          go_simp
          try rfl
        case onw =>
          try simp only [Act.put, List.setIfInBounds_toArray, List.set_cons_zero, List.set_cons_succ]
          refine' wpAnyL_take (i := 2) (oi := ⟨some 25, _, _, _, _, _⟩) (v := _) rfl (by kernel_rfl) (by kernel_rfl) (by kernel_rfl) (by kernel_rfl) (fun _ _ _ h => h) hH0 (by rfl) ?hyv ?onw
          case hyv =>
            intro wz hSw
            go_simp
            try rfl
          case onw =>
            try simp only [Act.put, List.setIfInBounds_toArray, List.set_cons_zero, List.set_cons_succ]
            refine' wpAnyL_take (i := 3) (oi := ⟨some 26, _, _, _, _, _⟩) (v := _) rfl (by kernel_rfl) (by kernel_rfl) (by kernel_rfl) (by kernel_rfl) (fun _ _ _ h => h) hH0 (by rfl) ?hyv ?onw
            case hyv =>
              intro wz hSw
              go_simp
              try rfl
            case onw =>
              try simp only [Act.put, List.setIfInBounds_toArray, List.set_cons_zero, List.set_cons_succ]
              refine' wpAnyL_take (i := 5) (oi := ⟨some 28, _, _, _, _, _⟩) (v := _) rfl (by kernel_rfl) (by kernel_rfl) (by kernel_rfl) (by kernel_rfl) (fun _ _ _ h => h) hH0 (by rfl) ?hyv ?onw
              case hyv =>
                intro wz hSw
                go_simp
                try rfl
              case onw =>
                try simp only [Act.put, List.setIfInBounds_toArray, List.set_cons_zero, List.set_cons_succ]
                refine' wpAnyL_take (i := 6) (oi := ⟨some 29, _, _, _, _, _⟩) (v := _) rfl (by kernel_rfl) (by kernel_rfl) (by kernel_rfl) (by kernel_rfl) (fun _ _ _ h => h) hH0 (by rfl) ?hyv ?onw
                case hyv =>
                  intro wz hSw
                  go_simp
                  try rfl
                case onw =>
                  try simp only [Act.put, List.setIfInBounds_toArray, List.set_cons_zero, List.set_cons_succ]
                  refine' wpAnyL_take (i := 7) (oi := ⟨some 30, _, _, _, _, _⟩) (v := .slice sda sdn sdc) rfl (by kernel_rfl) (by kernel_rfl) (by kernel_rfl) (by kernel_rfl) (fun _ _ _ h => h) hH0 (by rfl) ?hyv ?onw
                  case hyv =>
                    intro wz hSw
                    go_simp
                    have hsd := HSD.out
                    injection hsd with z1 z2 z3
                    exact ⟨z1, z2, z3⟩
                  case onw =>
                    try simp only [Act.put, List.setIfInBounds_toArray, List.set_cons_zero, List.set_cons_succ]
                    refine' wpAnyL_take (i := 8) (oi := ⟨some 31, _, _, _, _, _⟩) (v := _) rfl (by kernel_rfl) (by kernel_rfl) (by kernel_rfl) (by kernel_rfl) (fun _ _ _ h => h) hH0 (by rfl) ?hyv ?onw
                    case hyv =>
                      intro wz hSw
                      go_simp
                      try rfl
                    case onw =>
                      try simp only [Act.put, List.setIfInBounds_toArray, List.set_cons_zero, List.set_cons_succ]
                      refine wpAnyL_one (i := 4) (o := _) rfl (by kernel_rfl) (by rfl) (fun K hK => ?_)
                      have p0 := cell_of kP0 0
                      have p1 := cell_of kP0 1
                      have p2 := cell_of kP0 2
                      have p3 := cell_of kP0 3
                      simp at p0 p1 p2 p3
                      go_simp
                      refine hK.out _ _ (fun _ => hH0) ?_
                      clear hK K p0 p1 p2 p3
                      try simp only [Act.put, List.setIfInBounds_toArray, List.set_cons_zero, List.set_cons_succ]
                      generalize wd0 = wd1 at hH0 ownT rowD ⊢
                      have hH1 := hH0
                      refine wpAnyL_one (i := 9) (o := _) rfl (by kernel_rfl) (by rfl) (fun K hK => ?_)
                      go_simp
                      refine (HCT.out wd1 (B4.trans hH1) (longs_row rowD)).mono ?_
                      rintro eq wd2 ⟨rfl, bq2⟩
                      have hH2 : Below w.heap.size w4 wd2 := hH1.trans (bq2.mono (Nat.le_trans zB hH1.size))
                      have ownT2 := ownT.below bq2
                      refine hK.out _ _ (fun _ => hH2) ?_
                      clear hK K
                      try simp only [Act.put, List.setIfInBounds_toArray, List.set_cons_zero, List.set_cons_succ]
                      refine wpAnyL_one (i := 10) (o := _) rfl (by kernel_rfl) (by rfl) (fun K hK => ?_)
                      go_simp
                      have hH3 : Below w.heap.size w4 (wd2.alloc (.cells #[.int .i64 yv] 2 (0, 0))) := hH2.alloc (Nat.le_trans zB hH2.size) _
                      refine hK.out _ _ (fun _ => hH3) ?_
                      clear hK K
                      try simp only [Act.put, List.setIfInBounds_toArray, List.set_cons_zero, List.set_cons_succ]
                      refine wpAnyL_one (i := 11) (o := _) rfl (by kernel_rfl) (by rfl) (fun K hK => ?_)
                      refine oper_own kLong _ _ 40 2 rfl Tryd.underlying40 w.heap.size _ _ (by rfl) ownT2 [.int .i64 yv] yv rfl (by rfl) (Nat.le_trans zB hH2.size) q5 q6 ?_
                      intro v8 wd4 own8 b8
                      have HO8 := hide own8
                      clear own8
                      have hH4 : Below w.heap.size w4 wd4 := hH2.trans b8
                      refine hK.out _ _ (fun _ => hH4) ?_
                      clear hK K
                      try simp only [Act.put, List.setIfInBounds_toArray, List.set_cons_zero, List.set_cons_succ]
                      refine' wpAnyL_take (i := 12) (oi := ⟨some 7, _, _, _, _, _⟩) (v := _) rfl (by kernel_rfl) (by kernel_rfl) (by kernel_rfl) (by kernel_rfl) (fun _ _ _ h => h) hH4 (by rfl) ?hyv ?onw
                      case hyv =>
                        intro wz hSw
                        go_simp
                        try rfl
                      case onw =>
                        try simp only [Act.put, List.setIfInBounds_toArray, List.set_cons_zero, List.set_cons_succ]
                        refine wpAnyL_done (by kernel_rfl) ?_ _
                        have B8 := B4.trans hH4
                        go_wp2_with fail
                        go_roundg (ne - (i + 1))
                        case measure => omega
                        case rel => exact ⟨i + 1, _, by omega, rfl, by go_num, hide HSS2.out.symm, HO8, B8⟩
end Go.Proofs.YtgjdkgkgbmbffaaDoor
