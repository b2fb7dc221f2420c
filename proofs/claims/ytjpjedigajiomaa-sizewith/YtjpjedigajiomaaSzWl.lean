/-
  DERIVED. THE WALK of the law SizeWith.
-/
import Derived.Test.YtjpjedigajiomaaSzWm
namespace Go.Proofs.Ytjpjedigajiomaa
open Go.Shelf Go.RowKit Go.Lib Go.IntWalk Go.Maps
set_option linter.unusedVariables false
set_option linter.unusedSimpArgs false
set_option maxRecDepth 100000

set_option maxHeartbeats 16000000 in
theorem with_walk {oka okb okc : Nat → Prop} {w : World} {va vb vc : Value} {A Bs Cs : List Int} (vn : Int) (hA : HInts oka w va A) (hBs : HInts okb w vb Bs) (hCs : HInts okc w vc Cs) :
    Calls Try.prog 5 #[va, vb, vc, .int .i64 vn] w fun e w' => e = .returned (.bool true) ∧ Below w.heap.size w w' := by
  have hbeg := begun_any w
  obtain ⟨aa, ca, rfl, ha1, ha2, _⟩ := hA.at
  obtain ⟨ab, cb, rfl, hb1, hb2, _⟩ := hBs.at
  obtain ⟨ac, cc, rfl, hc1, hc2, _⟩ := hCs.at
  unfold maxLen at ha2 hb2 hc2
  have HHA := hide hA
  have HHB := hide hBs
  have HHC := hide hCs
  clear hA hBs hCs
  go_enter Try.func5, Try.ntmps5
  go_wp2_with fail
  refine hbeg.mono ?_
  rintro e w1 ⟨rfl, b1⟩
  clear hbeg
  by_cases hla : 20 < A.length
  · have hlaI : (20 : Int) < (A.length : Int) := by omega
    go_wp2
    go_ret
    exact ⟨rfl, b1⟩
  by_cases hlb : 20 < Bs.length
  · have hlaI : ¬ (20 : Int) < (A.length : Int) := by omega
    have hlbI : (20 : Int) < (Bs.length : Int) := by omega
    go_wp2
    go_ret
    exact ⟨rfl, b1⟩
  by_cases hlc : 20 < Cs.length
  · have hlaI : ¬ (20 : Int) < (A.length : Int) := by omega
    have hlbI : ¬ (20 : Int) < (Bs.length : Int) := by omega
    have hlcI : (20 : Int) < (Cs.length : Int) := by omega
    go_wp2
    go_ret
    exact ⟨rfl, b1⟩
  have hlaI : ¬ (20 : Int) < (A.length : Int) := by omega
  have hlbI : ¬ (20 : Int) < (Bs.length : Int) := by omega
  have hlcI : ¬ (20 : Int) < (Cs.length : Int) := by omega
  go_upto_region 6 with fail

  obtain ⟨w2, hw2⟩ : ∃ w2, w2 = w1.alloc (.cells #[.slice none 0 0, .slice none 0 0, .slice none 0 0] 43 (0, 0)) := ⟨_, rfl⟩
  have b2 : Below w1.heap.size w1 w2 := by rw [hw2]; exact (Below.refl _ _).alloc (Nat.le_refl _) _
  have K2 : w2.heap[w1.heap.size]? = some (.cells #[.slice none 0 0, .slice none 0 0, .slice none 0 0] 43 (0, 0)) := by rw [hw2]; exact heap_new _ _
  have B2 := b1.trans (b2.mono b1.size)
  have y2 := lt_of K2
  have yw : w.heap.size ≤ w1.heap.size := b1.size
  rw [← hw2]
  clear hw2 b1 b2
  go_upto_block 0 with fail
  go_cut [10] (fun _ wd => ∃ (l : List Tm) (xa : Option Addr) (xc : Nat), wd.heap[w1.heap.size]? = some (.cells #[.slice xa l.length xc, .slice none 0 0, .slice none 0 0] 43 (0, 0)) ∧ OwnL kTerm w2.heap.size wd (.slice xa l.length xc) l ∧ l.length ≤ 20 ∧ Hid (∀ t ∈ l, STm t) ∧ Aside [w1.heap.size] w2.heap.size w2 wd)
  case first =>
    go_wp2_with fail
    go_loopg [10] A.length (fun gh s1 wr => ∃ (i : Nat) (acc : List Tm) (xa : Option Addr) (xc : Nat), s1 = .int .i64 (i : Int) ∧ i ≤ A.length ∧ A.length ≤ gh + i ∧ acc.length = i ∧ wr.heap[w1.heap.size]? = some (.cells #[.slice xa acc.length xc, .slice none 0 0, .slice none 0 0] 43 (0, 0)) ∧ Hid (OwnL kTerm w2.heap.size wr (.slice xa acc.length xc) acc) ∧ Hid (∀ t ∈ acc, STm t) ∧ Aside [w1.heap.size] w2.heap.size w2 wr)
    case atStart => exact ⟨0, [], none, 0, rfl, by omega, by omega, rfl, K2, hide OwnL.nil, hide (fun t h => by simp at h), Aside.refl _⟩
    case round =>
      obtain ⟨i, acc, xa, xc, rfl, hiA, hgi, hal, KR, HO, HST, aR⟩ := hrel
      have yR := aR.size
      have bRw : Below w.heap.size w wr := ((aside (S := [w1.heap.size]) B2).trans aR (B2.size)).below (by simp; omega)
      by_cases hlt : i < A.length
      case neg =>
        have hge : ¬ (i : Int) < (A.length : Int) := by omega
        go_wp2_with fail
        go_meet
        case rel => exact ⟨acc, xa, xc, KR, HO.out, by omega, HST, aR⟩
      case pos =>
        have hltI : (i : Int) < (A.length : Int) := by omega
        obtain ⟨aa', ca', ev, _, _, hat⟩ := (HHA.out.keep (w' := wr) bRw.size (fun i _ hl => bRw.block i hl)).at
        injection ev with ev1 ev2 ev3
        subst ev1
        obtain ⟨b, o, rfl, hb, c0⟩ := hat i hlt
        have hbw : b < w.heap.size := by
          obtain ⟨a8, c8, ev8, _, _, hat8⟩ := HHA.out.at
          injection ev8 with ev9 _ _
          obtain ⟨bx, ox, e8, hb8, _⟩ := hat8 i hlt
          rw [← ev9] at e8
          injection e8 with e8
          injection e8 with e8 _ _
          rw [e8]; exact hb8
        clear hat ev2 ev3
        generalize A[i] = z at c0
        have k0 := cell_of KR 0
        simp at k0
        have yA := lt_of KR
        obtain ⟨N, hN⟩ : ∃ N, N = acc.length := ⟨_, rfl⟩
        rw [← hN] at KR HO k0
        have HNN := hide hN
        clear hN
        go_upto_region 9 with fail
        refine wp_region_late (fun w' => w'.cell? ⟨w1.heap.size, 0, none⟩ = some (.slice xa N xc) ∧ w'.cell? ⟨b, o + i, none⟩ = some (.int .i64 z)) (fun j => decide (j = 10)) (by kernel_rfl) ?_
        have k0d : wr.drew.cell? ⟨w1.heap.size, 0, none⟩ = some (.slice xa N xc) := k0
        have c0d : wr.drew.cell? ⟨b, o + i, none⟩ = some (.int .i64 z) := c0
        have hH := And.intro k0d c0d
        have KRd : wr.drew.heap[w1.heap.size]? = some (.cells #[.slice xa N xc, .slice none 0 0, .slice none 0 0] 43 (0, 0)) := KR
        have HOd : OwnL kTerm w2.heap.size wr.drew (.slice xa N xc) acc := HO.out.below ((Below.refl _ wr).drew)
        have yRd : wr.drew.heap.size = wr.heap.size := rfl
        have aRd : Aside [w1.heap.size] w2.heap.size w2 wr.drew := aR.drew
        generalize wr.drew = wd at k0d c0d hH KRd HOd yRd aRd ⊢
        refine' wpAnyL_take (i := 0) (oi := { dst := some 46, op := Op.indexAddr 43 (Operand.tmp 9) (Operand.const (Value.int IntKind.i64 0)), type := 0, pos := "law04.go:114", after := #[], guard := none }) (v := _) rfl (by kernel_rfl) (by kernel_rfl) (by kernel_rfl) (by kernel_rfl) (fun _ _ _ h => h) hH (by rfl) ?hyv ?onw
        case hyv =>
          intro wz hSw
          obtain ⟨z0, z1⟩ := hSw
          go_simp
          try rfl
        case onw =>
          try simp only [Act.put, List.setIfInBounds_toArray, List.set_cons_zero, List.set_cons_succ]
          refine' wpAnyL_take (i := 1) (oi := { dst := some 47, op := Op.load 23 (Operand.tmp 46), type := 23, pos := "law04.go:114", after := #[{ on := 0, ground := Ground.data }], guard := none }) (v := _) rfl (by kernel_rfl) (by kernel_rfl) (by kernel_rfl) (by kernel_rfl) (fun _ _ _ h => h) hH (by rfl) ?hyv ?onw
          case hyv =>
            intro wz hSw
            obtain ⟨z0, z1⟩ := hSw
            go_simp
            try rfl
          case onw =>
            try simp only [Act.put, List.setIfInBounds_toArray, List.set_cons_zero, List.set_cons_succ]
            refine' wpAnyL_take (i := 2) (oi := { dst := some 48, op := Op.move (Operand.tmp 0), type := 26, pos := "law04.go:114", after := #[], guard := none }) (v := _) rfl (by kernel_rfl) (by kernel_rfl) (by kernel_rfl) (by kernel_rfl) (fun _ _ _ h => h) hH (by rfl) ?hyv ?onw
            case hyv =>
              intro wz hSw
              obtain ⟨z0, z1⟩ := hSw
              go_simp
              try rfl
            case onw =>
              try simp only [Act.put, List.setIfInBounds_toArray, List.set_cons_zero, List.set_cons_succ]
              refine' wpAnyL_take (i := 3) (oi := { dst := some 49, op := Op.move (Operand.tmp 10), type := 3, pos := "law04.go:114", after := #[], guard := none }) (v := _) rfl (by kernel_rfl) (by kernel_rfl) (by kernel_rfl) (by kernel_rfl) (fun _ _ _ h => h) hH (by rfl) ?hyv ?onw
              case hyv =>
                intro wz hSw
                obtain ⟨z0, z1⟩ := hSw
                go_simp
                try rfl
              case onw =>
                try simp only [Act.put, List.setIfInBounds_toArray, List.set_cons_zero, List.set_cons_succ]
                refine' wpAnyL_take (i := 4) (oi := { dst := some 50, op := Op.indexAddr 26 (Operand.tmp 48) (Operand.tmp 49), type := 0, pos := "law04.go:114", after := #[{ on := 2, ground := Ground.data }, { on := 3, ground := Ground.data }], guard := none }) (v := _) rfl (by kernel_rfl) (by kernel_rfl) (by kernel_rfl) (by kernel_rfl) (fun _ _ _ h => h) hH (by rfl) ?hyv ?onw
                case hyv =>
                  intro wz hSw
                  obtain ⟨z0, z1⟩ := hSw
                  go_simp
                  try rfl
                case onw =>
                  try simp only [Act.put, List.setIfInBounds_toArray, List.set_cons_zero, List.set_cons_succ]
                  refine' wpAnyL_take (i := 5) (oi := { dst := some 51, op := Op.load 3 (Operand.tmp 50), type := 3, pos := "law04.go:114", after := #[{ on := 4, ground := Ground.data }], guard := none }) (v := _) rfl (by kernel_rfl) (by kernel_rfl) (by kernel_rfl) (by kernel_rfl) (fun _ _ _ h => h) hH (by rfl) ?hyv ?onw
                  case hyv =>
                    intro wz hSw
                    obtain ⟨z0, z1⟩ := hSw
                    go_simp
                    try rfl
                  case onw =>
                    try simp only [Act.put, List.setIfInBounds_toArray, List.set_cons_zero, List.set_cons_succ]
                    refine wpAnyL_one (i := 6) (o := { dst := some 52, op := Op.call { callee := Callee.value (Operand.func 17), args := #[Operand.tmp 51], argTypes := #[3] }, type := 39, pos := "law04.go:114", after := #[{ on := 5, ground := Ground.data }], guard := none }) rfl (by kernel_rfl) (by rfl) (fun K hK => ?_)
                    go_simp
                    refine (sizeTerm_any _ _).mono ?_
                    rintro e wq ⟨t, rfl, hst, b4⟩
                    have hbd : b < wd.heap.size := by rw [yRd]; exact hb
                    have hgd : w1.heap.size < wd.heap.size := by rw [yRd]; exact yA
                    have k04 := (b4.cell (p := ⟨w1.heap.size, 0, none⟩) hgd).trans k0d
                    have c04 := (b4.cell (p := ⟨b, o + i, none⟩) hbd).trans c0d
                    refine hK.out _ _ (fun _ => ⟨k04, c04⟩) ?_
                    clear hK K
                    try simp only [Act.put, List.setIfInBounds_toArray, List.set_cons_zero, List.set_cons_succ]
                    refine wpAnyL_one (i := 7) (o := { dst := some 53, op := Op.buildSlice 23 1 #[(0, Operand.tmp 52)], type := 23, pos := "law04.go:114", after := #[{ on := 6, ground := Ground.data }], guard := none }) rfl (by kernel_rfl) (by rfl) (fun K hK => ?_)
                    go_simp
                    obtain ⟨wL, hwL⟩ : ∃ wL, wL = wq.alloc (.cells #[.int .i64 t.1, .string t.2] 39 (0, 0)) := ⟨_, rfl⟩
                    rw [← hwL]
                    have bL : Below wq.heap.size wq wL := by rw [hwL]; exact (Below.refl _ _).alloc (Nat.le_refl _) _
                    have KL : Blk wL wq.heap.size [t] [] := by unfold Blk; rw [hwL]; exact heap_new wq _
                    clear hwL
                    have bdL := b4.trans (bL.mono b4.size)
                    have k0L := (bdL.cell (p := ⟨w1.heap.size, 0, none⟩) hgd).trans k0d
                    have c0L := (bdL.cell (p := ⟨b, o + i, none⟩) hbd).trans c0d
                    have KRL := (bdL.block _ hgd).trans KRd
                    refine hK.out _ _ (fun _ => ⟨k0L, c0L⟩) ?_
                    clear hK K
                    try simp only [Act.put, List.setIfInBounds_toArray, List.set_cons_zero, List.set_cons_succ]
                    have hlit := blk_terms (c := 1) KL (by simp) (by unfold maxLen; omega) (by simp)
                    have yWd : w2.heap.size ≤ wd.heap.size := by rw [yRd]; exact yR
                    obtain ⟨v8, w8, r8, o8, bc, g8⟩ := run_cat (B := w2.heap.size) (w := wL) (ty := 23) (HOd.below bdL) hlit (Nat.le_trans yWd bdL.size) (by simp; omega)
                    simp only [List.length_singleton] at r8
                    refine wpAnyL_one (i := 8) (o := { dst := some 54, op := Op.call { callee := Callee.builtin Builtin.append, args := #[Operand.tmp 47, Operand.tmp 53], argTypes := #[23, 23] }, type := 23, pos := "law04.go:114", after := #[{ on := 1, ground := Ground.data }, { on := 7, ground := Ground.data }, { on := 6, ground := Ground.chain }], guard := none }) rfl (by kernel_rfl) (by rfl) (fun K hK => ?_)
                    refine oper_cat _ _ rfl _ _ _ (by rfl) (by rfl) r8 ?_
                    have hgW : w1.heap.size < w2.heap.size := y2
                    have k08 := (World.cell?_of_block (w := wL) (a := ⟨w1.heap.size, 0, none⟩) (bc.block _ hgW)).trans k0L
                    have c08 := (World.cell?_of_block (w := wL) (a := ⟨b, o + i, none⟩) (bc.block _ (Nat.lt_of_lt_of_le hbw B2.size))).trans c0L
                    have KR8 := (bc.block _ hgW).trans KRL
                    refine hK.out _ _ (fun _ => ⟨k08, c08⟩) ?_
                    clear hK K
                    try simp only [Act.put, List.setIfInBounds_toArray, List.set_cons_zero, List.set_cons_succ]
                    obtain ⟨ax8, cx8, hv8, _, _⟩ := o8.form
                    subst hv8
                    refine' wpAnyL_take (i := 9) (oi := { dst := some 55, op := Op.indexAddr 43 (Operand.tmp 9) (Operand.const (Value.int IntKind.i64 0)), type := 0, pos := "law04.go:114", after := #[{ on := 0, ground := Ground.phase }, { on := 1, ground := Ground.phase }, { on := 2, ground := Ground.phase }, { on := 3, ground := Ground.phase }, { on := 4, ground := Ground.phase }, { on := 5, ground := Ground.phase }, { on := 6, ground := Ground.phase }, { on := 7, ground := Ground.phase }, { on := 8, ground := Ground.phase }], guard := none }) (v := _) rfl (by kernel_rfl) (by kernel_rfl) (by kernel_rfl) (by kernel_rfl) (fun _ _ _ h => h) (And.intro k08 c08) (by rfl) ?hyv ?onw
                    case hyv =>
                      intro wz hSw
                      obtain ⟨z0, z1⟩ := hSw
                      go_simp
                      try rfl
                    case onw =>
                      try simp only [Act.put, List.setIfInBounds_toArray, List.set_cons_zero, List.set_cons_succ]
                      have f8 := fun o => free_of KR8 o
                      refine wpAnyL_one (i := 10) (o := { dst := none, op := Op.store 23 (Operand.tmp 55) (Operand.tmp 54), type := 0, pos := "law04.go:114", after := #[{ on := 9, ground := Ground.data }, { on := 8, ground := Ground.data }, { on := 8, ground := Ground.chain }, { on := 0, ground := Ground.phase }, { on := 1, ground := Ground.phase }, { on := 2, ground := Ground.phase }, { on := 3, ground := Ground.phase }, { on := 4, ground := Ground.phase }, { on := 5, ground := Ground.phase }, { on := 6, ground := Ground.phase }, { on := 7, ground := Ground.phase }, { on := 8, ground := Ground.phase }], guard := none }) rfl (by kernel_rfl) (by rfl) (fun K hK => ?_)
                      go_simp
                      refine hK.out _ _ (fun h => by cases h) ?_
                      clear hK K
                      try simp only [Act.put, List.setIfInBounds_toArray, List.set_cons_zero, List.set_cons_succ]
                      refine wpAnyL_done (by kernel_rfl) ?_ _
                      have K9 := set_in KR8 0 (.slice ax8 (acc ++ [t]).length cx8)
                      simp only [List.setIfInBounds_toArray, List.set_cons_zero, List.set_cons_succ] at K9
                      have HK9 := hide K9
                      have o9 := o8.set (p := ⟨w1.heap.size, 0, none⟩) hgW (.slice ax8 (acc ++ [t]).length cx8)
                      have HS2 : Hid (∀ x ∈ acc ++ [t], STm x) := hide (fun x hx => by
                        rcases List.mem_append.1 hx with m | m
                        · exact HST.out x m
                        · simp at m; subst m; exact hst)
                      have aL : Aside [w1.heap.size] w2.heap.size w2 w8 := (aRd.trans (aside (S := [w1.heap.size]) bdL) yWd).trans (aside (S := [w1.heap.size]) bc) (Nat.le_refl _)
                      have a9 := aL.trans (Aside.setCell (S := [w1.heap.size]) (B := w2.heap.size) (w := w8) (p := ⟨w1.heap.size, 0, none⟩) (by simp) (.slice ax8 (acc ++ [t]).length cx8)) (Nat.le_refl _)
                      have hl2 : (acc ++ [t]).length = i + 1 := by rw [List.length_append, List.length_singleton]; omega
                      have HL2 := hide hl2
                      have HO9 := hide o9
                      have HA9 := hide a9
                      clear hl2 o9 a9 K9 o8 aL
                      go_wp2_with fail
                      go_roundg (gk - 1)
                      case measure => omega
                      case rel =>
                        have K10 := HK9.out
                        have O10 := HO9.out
                        have A10 := HA9.out
                        rw [HL2.out] at K10 O10 A10
                        exact ⟨i + 1, acc ++ [t], ax8, cx8, by go_num, by omega, by omega, HL2.out, by rw [HL2.out]; exact K10, hide (by rw [HL2.out]; exact O10), HS2, A10⟩
  case rest =>
    obtain ⟨l0, x0, z0, hKn, hOn, hl0, HS0, aN⟩ := hcut
    obtain ⟨w3, hwn⟩ : ∃ w3, w3 = wc := ⟨_, rfl⟩
    rw [← hwn] at hKn hOn aN ⊢
    clear hwn
    have B3 : Below w.heap.size w w3 := ((aside (S := [w1.heap.size]) B2).trans aN (B2.size)).below (by simp; omega)
    have y3 : w1.heap.size < w3.heap.size := lt_of hKn
    have K3 := hKn
    have HW0 := hide hOn
    clear hKn hOn K2
    go_upto_block 2 with fail
    go_cut [11] (fun _ wd => ∃ (l : List Tm) (xa : Option Addr) (xc : Nat), wd.heap[w1.heap.size]? = some (.cells #[.slice x0 l0.length z0, .slice xa l.length xc, .slice none 0 0] 43 (0, 0)) ∧ OwnL kTerm w3.heap.size wd (.slice xa l.length xc) l ∧ l.length ≤ 20 ∧ Hid (∀ t ∈ l, STm t) ∧ Aside [w1.heap.size] w3.heap.size w3 wd)
    case first =>
      go_wp2_with fail
      go_loopg [11] Bs.length (fun gh s1 wr => ∃ (i : Nat) (acc : List Tm) (xa : Option Addr) (xc : Nat), s1 = .int .i64 (i : Int) ∧ i ≤ Bs.length ∧ Bs.length ≤ gh + i ∧ acc.length = i ∧ wr.heap[w1.heap.size]? = some (.cells #[.slice x0 l0.length z0, .slice xa acc.length xc, .slice none 0 0] 43 (0, 0)) ∧ Hid (OwnL kTerm w3.heap.size wr (.slice xa acc.length xc) acc) ∧ Hid (∀ t ∈ acc, STm t) ∧ Aside [w1.heap.size] w3.heap.size w3 wr)
      case atStart => exact ⟨0, [], none, 0, rfl, by omega, by omega, rfl, K3, hide OwnL.nil, hide (fun t h => by simp at h), Aside.refl _⟩
      case round =>
        obtain ⟨i, acc, xa, xc, rfl, hiA, hgi, hal, KR, HO, HST, aR⟩ := hrel
        have yR := aR.size
        have bRw : Below w.heap.size w wr := ((aside (S := [w1.heap.size]) B3).trans aR (B3.size)).below (by simp; omega)
        by_cases hlt : i < Bs.length
        case neg =>
          have hge : ¬ (i : Int) < (Bs.length : Int) := by omega
          go_wp2_with fail
          go_meet
          case rel => exact ⟨acc, xa, xc, KR, HO.out, by omega, HST, aR⟩
        case pos =>
          have hltI : (i : Int) < (Bs.length : Int) := by omega
          obtain ⟨aa', ca', ev, _, _, hat⟩ := (HHB.out.keep (w' := wr) bRw.size (fun i _ hl => bRw.block i hl)).at
          injection ev with ev1 ev2 ev3
          subst ev1
          obtain ⟨b, o, rfl, hb, c0⟩ := hat i hlt
          have hbw : b < w.heap.size := by
            obtain ⟨a8, c8, ev8, _, _, hat8⟩ := HHB.out.at
            injection ev8 with ev9 _ _
            obtain ⟨bx, ox, e8, hb8, _⟩ := hat8 i hlt
            rw [← ev9] at e8
            injection e8 with e8
            injection e8 with e8 _ _
            rw [e8]; exact hb8
          clear hat ev2 ev3
          generalize Bs[i] = z at c0
          have k0 := cell_of KR 1
          simp at k0
          have yA := lt_of KR
          obtain ⟨N, hN⟩ : ∃ N, N = acc.length := ⟨_, rfl⟩
          rw [← hN] at KR HO k0
          have HNN := hide hN
          clear hN
          go_upto_region 13 with fail
          refine wp_region_late (fun w' => w'.cell? ⟨w1.heap.size, 1, none⟩ = some (.slice xa N xc) ∧ w'.cell? ⟨b, o + i, none⟩ = some (.int .i64 z)) (fun j => decide (j = 10)) (by kernel_rfl) ?_
          have k0d : wr.drew.cell? ⟨w1.heap.size, 1, none⟩ = some (.slice xa N xc) := k0
          have c0d : wr.drew.cell? ⟨b, o + i, none⟩ = some (.int .i64 z) := c0
          have hH := And.intro k0d c0d
          have KRd : wr.drew.heap[w1.heap.size]? = some (.cells #[.slice x0 l0.length z0, .slice xa N xc, .slice none 0 0] 43 (0, 0)) := KR
          have HOd : OwnL kTerm w3.heap.size wr.drew (.slice xa N xc) acc := HO.out.below ((Below.refl _ wr).drew)
          have yRd : wr.drew.heap.size = wr.heap.size := rfl
          have aRd : Aside [w1.heap.size] w3.heap.size w3 wr.drew := aR.drew
          generalize wr.drew = wd at k0d c0d hH KRd HOd yRd aRd ⊢
          refine' wpAnyL_take (i := 0) (oi := { dst := some 62, op := Op.indexAddr 43 (Operand.tmp 9) (Operand.const (Value.int IntKind.i64 1)), type := 0, pos := "law04.go:117", after := #[], guard := none }) (v := _) rfl (by kernel_rfl) (by kernel_rfl) (by kernel_rfl) (by kernel_rfl) (fun _ _ _ h => h) hH (by rfl) ?hyv ?onw
          case hyv =>
            intro wz hSw
            obtain ⟨z0, z1⟩ := hSw
            go_simp
            try rfl
          case onw =>
            try simp only [Act.put, List.setIfInBounds_toArray, List.set_cons_zero, List.set_cons_succ]
            refine' wpAnyL_take (i := 1) (oi := { dst := some 63, op := Op.load 23 (Operand.tmp 62), type := 23, pos := "law04.go:117", after := #[{ on := 0, ground := Ground.data }], guard := none }) (v := _) rfl (by kernel_rfl) (by kernel_rfl) (by kernel_rfl) (by kernel_rfl) (fun _ _ _ h => h) hH (by rfl) ?hyv ?onw
            case hyv =>
              intro wz hSw
              obtain ⟨z0, z1⟩ := hSw
              go_simp
              try rfl
            case onw =>
              try simp only [Act.put, List.setIfInBounds_toArray, List.set_cons_zero, List.set_cons_succ]
              refine' wpAnyL_take (i := 2) (oi := { dst := some 64, op := Op.move (Operand.tmp 1), type := 26, pos := "law04.go:117", after := #[], guard := none }) (v := _) rfl (by kernel_rfl) (by kernel_rfl) (by kernel_rfl) (by kernel_rfl) (fun _ _ _ h => h) hH (by rfl) ?hyv ?onw
              case hyv =>
                intro wz hSw
                obtain ⟨z0, z1⟩ := hSw
                go_simp
                try rfl
              case onw =>
                try simp only [Act.put, List.setIfInBounds_toArray, List.set_cons_zero, List.set_cons_succ]
                refine' wpAnyL_take (i := 3) (oi := { dst := some 65, op := Op.move (Operand.tmp 11), type := 3, pos := "law04.go:117", after := #[], guard := none }) (v := _) rfl (by kernel_rfl) (by kernel_rfl) (by kernel_rfl) (by kernel_rfl) (fun _ _ _ h => h) hH (by rfl) ?hyv ?onw
                case hyv =>
                  intro wz hSw
                  obtain ⟨z0, z1⟩ := hSw
                  go_simp
                  try rfl
                case onw =>
                  try simp only [Act.put, List.setIfInBounds_toArray, List.set_cons_zero, List.set_cons_succ]
                  refine' wpAnyL_take (i := 4) (oi := { dst := some 66, op := Op.indexAddr 26 (Operand.tmp 64) (Operand.tmp 65), type := 0, pos := "law04.go:117", after := #[{ on := 2, ground := Ground.data }, { on := 3, ground := Ground.data }], guard := none }) (v := _) rfl (by kernel_rfl) (by kernel_rfl) (by kernel_rfl) (by kernel_rfl) (fun _ _ _ h => h) hH (by rfl) ?hyv ?onw
                  case hyv =>
                    intro wz hSw
                    obtain ⟨z0, z1⟩ := hSw
                    go_simp
                    try rfl
                  case onw =>
                    try simp only [Act.put, List.setIfInBounds_toArray, List.set_cons_zero, List.set_cons_succ]
                    refine' wpAnyL_take (i := 5) (oi := { dst := some 67, op := Op.load 3 (Operand.tmp 66), type := 3, pos := "law04.go:117", after := #[{ on := 4, ground := Ground.data }], guard := none }) (v := _) rfl (by kernel_rfl) (by kernel_rfl) (by kernel_rfl) (by kernel_rfl) (fun _ _ _ h => h) hH (by rfl) ?hyv ?onw
                    case hyv =>
                      intro wz hSw
                      obtain ⟨z0, z1⟩ := hSw
                      go_simp
                      try rfl
                    case onw =>
                      try simp only [Act.put, List.setIfInBounds_toArray, List.set_cons_zero, List.set_cons_succ]
                      refine wpAnyL_one (i := 6) (o := { dst := some 68, op := Op.call { callee := Callee.value (Operand.func 17), args := #[Operand.tmp 67], argTypes := #[3] }, type := 39, pos := "law04.go:117", after := #[{ on := 5, ground := Ground.data }], guard := none }) rfl (by kernel_rfl) (by rfl) (fun K hK => ?_)
                      go_simp
                      refine (sizeTerm_any _ _).mono ?_
                      rintro e wq ⟨t, rfl, hst, b4⟩
                      have hbd : b < wd.heap.size := by rw [yRd]; exact hb
                      have hgd : w1.heap.size < wd.heap.size := by rw [yRd]; exact yA
                      have k04 := (b4.cell (p := ⟨w1.heap.size, 1, none⟩) hgd).trans k0d
                      have c04 := (b4.cell (p := ⟨b, o + i, none⟩) hbd).trans c0d
                      refine hK.out _ _ (fun _ => ⟨k04, c04⟩) ?_
                      clear hK K
                      try simp only [Act.put, List.setIfInBounds_toArray, List.set_cons_zero, List.set_cons_succ]
                      refine wpAnyL_one (i := 7) (o := { dst := some 69, op := Op.buildSlice 23 1 #[(0, Operand.tmp 68)], type := 23, pos := "law04.go:117", after := #[{ on := 6, ground := Ground.data }], guard := none }) rfl (by kernel_rfl) (by rfl) (fun K hK => ?_)
                      go_simp
                      obtain ⟨wL, hwL⟩ : ∃ wL, wL = wq.alloc (.cells #[.int .i64 t.1, .string t.2] 39 (0, 0)) := ⟨_, rfl⟩
                      rw [← hwL]
                      have bL : Below wq.heap.size wq wL := by rw [hwL]; exact (Below.refl _ _).alloc (Nat.le_refl _) _
                      have KL : Blk wL wq.heap.size [t] [] := by unfold Blk; rw [hwL]; exact heap_new wq _
                      clear hwL
                      have bdL := b4.trans (bL.mono b4.size)
                      have k0L := (bdL.cell (p := ⟨w1.heap.size, 1, none⟩) hgd).trans k0d
                      have c0L := (bdL.cell (p := ⟨b, o + i, none⟩) hbd).trans c0d
                      have KRL := (bdL.block _ hgd).trans KRd
                      refine hK.out _ _ (fun _ => ⟨k0L, c0L⟩) ?_
                      clear hK K
                      try simp only [Act.put, List.setIfInBounds_toArray, List.set_cons_zero, List.set_cons_succ]
                      have hlit := blk_terms (c := 1) KL (by simp) (by unfold maxLen; omega) (by simp)
                      have yWd : w3.heap.size ≤ wd.heap.size := by rw [yRd]; exact yR
                      obtain ⟨v8, w8, r8, o8, bc, g8⟩ := run_cat (B := w3.heap.size) (w := wL) (ty := 23) (HOd.below bdL) hlit (Nat.le_trans yWd bdL.size) (by simp; omega)
                      simp only [List.length_singleton] at r8
                      refine wpAnyL_one (i := 8) (o := { dst := some 70, op := Op.call { callee := Callee.builtin Builtin.append, args := #[Operand.tmp 63, Operand.tmp 69], argTypes := #[23, 23] }, type := 23, pos := "law04.go:117", after := #[{ on := 1, ground := Ground.data }, { on := 7, ground := Ground.data }, { on := 6, ground := Ground.chain }], guard := none }) rfl (by kernel_rfl) (by rfl) (fun K hK => ?_)
                      refine oper_cat _ _ rfl _ _ _ (by rfl) (by rfl) r8 ?_
                      have hgW : w1.heap.size < w3.heap.size := y3
                      have k08 := (World.cell?_of_block (w := wL) (a := ⟨w1.heap.size, 1, none⟩) (bc.block _ hgW)).trans k0L
                      have c08 := (World.cell?_of_block (w := wL) (a := ⟨b, o + i, none⟩) (bc.block _ (Nat.lt_of_lt_of_le hbw B3.size))).trans c0L
                      have KR8 := (bc.block _ hgW).trans KRL
                      refine hK.out _ _ (fun _ => ⟨k08, c08⟩) ?_
                      clear hK K
                      try simp only [Act.put, List.setIfInBounds_toArray, List.set_cons_zero, List.set_cons_succ]
                      obtain ⟨ax8, cx8, hv8, _, _⟩ := o8.form
                      subst hv8
                      refine' wpAnyL_take (i := 9) (oi := { dst := some 71, op := Op.indexAddr 43 (Operand.tmp 9) (Operand.const (Value.int IntKind.i64 1)), type := 0, pos := "law04.go:117", after := #[{ on := 0, ground := Ground.phase }, { on := 1, ground := Ground.phase }, { on := 2, ground := Ground.phase }, { on := 3, ground := Ground.phase }, { on := 4, ground := Ground.phase }, { on := 5, ground := Ground.phase }, { on := 6, ground := Ground.phase }, { on := 7, ground := Ground.phase }, { on := 8, ground := Ground.phase }], guard := none }) (v := _) rfl (by kernel_rfl) (by kernel_rfl) (by kernel_rfl) (by kernel_rfl) (fun _ _ _ h => h) (And.intro k08 c08) (by rfl) ?hyv ?onw
                      case hyv =>
                        intro wz hSw
                        obtain ⟨z0, z1⟩ := hSw
                        go_simp
                        try rfl
                      case onw =>
                        try simp only [Act.put, List.setIfInBounds_toArray, List.set_cons_zero, List.set_cons_succ]
                        have f8 := fun o => free_of KR8 o
                        refine wpAnyL_one (i := 10) (o := { dst := none, op := Op.store 23 (Operand.tmp 71) (Operand.tmp 70), type := 0, pos := "law04.go:117", after := #[{ on := 9, ground := Ground.data }, { on := 8, ground := Ground.data }, { on := 8, ground := Ground.chain }, { on := 0, ground := Ground.phase }, { on := 1, ground := Ground.phase }, { on := 2, ground := Ground.phase }, { on := 3, ground := Ground.phase }, { on := 4, ground := Ground.phase }, { on := 5, ground := Ground.phase }, { on := 6, ground := Ground.phase }, { on := 7, ground := Ground.phase }, { on := 8, ground := Ground.phase }], guard := none }) rfl (by kernel_rfl) (by rfl) (fun K hK => ?_)
                        go_simp
                        refine hK.out _ _ (fun h => by cases h) ?_
                        clear hK K
                        try simp only [Act.put, List.setIfInBounds_toArray, List.set_cons_zero, List.set_cons_succ]
                        refine wpAnyL_done (by kernel_rfl) ?_ _
                        have K9 := set_in KR8 1 (.slice ax8 (acc ++ [t]).length cx8)
                        simp only [List.setIfInBounds_toArray, List.set_cons_zero, List.set_cons_succ] at K9
                        have HK9 := hide K9
                        have o9 := o8.set (p := ⟨w1.heap.size, 1, none⟩) hgW (.slice ax8 (acc ++ [t]).length cx8)
                        have HS2 : Hid (∀ x ∈ acc ++ [t], STm x) := hide (fun x hx => by
                          rcases List.mem_append.1 hx with m | m
                          · exact HST.out x m
                          · simp at m; subst m; exact hst)
                        have aL : Aside [w1.heap.size] w3.heap.size w3 w8 := (aRd.trans (aside (S := [w1.heap.size]) bdL) yWd).trans (aside (S := [w1.heap.size]) bc) (Nat.le_refl _)
                        have a9 := aL.trans (Aside.setCell (S := [w1.heap.size]) (B := w3.heap.size) (w := w8) (p := ⟨w1.heap.size, 1, none⟩) (by simp) (.slice ax8 (acc ++ [t]).length cx8)) (Nat.le_refl _)
                        have hl2 : (acc ++ [t]).length = i + 1 := by rw [List.length_append, List.length_singleton]; omega
                        have HL2 := hide hl2
                        have HO9 := hide o9
                        have HA9 := hide a9
                        clear hl2 o9 a9 K9 o8 aL
                        go_wp2_with fail
                        go_roundg (gk - 1)
                        case measure => omega
                        case rel =>
                          have K10 := HK9.out
                          have O10 := HO9.out
                          have A10 := HA9.out
                          rw [HL2.out] at K10 O10 A10
                          exact ⟨i + 1, acc ++ [t], ax8, cx8, by go_num, by omega, by omega, HL2.out, by rw [HL2.out]; exact K10, hide (by rw [HL2.out]; exact O10), HS2, A10⟩
    case rest =>
      obtain ⟨l1, x1, z1, hKn, hOn, hl1, HS1, aN⟩ := hcut
      obtain ⟨w4, hwn⟩ : ∃ w4, w4 = wc := ⟨_, rfl⟩
      rw [← hwn] at hKn hOn aN ⊢
      clear hwn
      have B4 : Below w.heap.size w w4 := ((aside (S := [w1.heap.size]) B3).trans aN (B3.size)).below (by simp; omega)
      have y4 : w1.heap.size < w4.heap.size := lt_of hKn
      have K4 := hKn
      have HW0' := hide (HW0.out.keep aN.size (fun i hi hl => aN.block i hl (by simp; omega)))
      clear HW0
      have HW0 := HW0'
      clear HW0'
      have HW1 := hide hOn
      clear hKn hOn K3
      go_upto_block 4 with fail
      go_cut [12] (fun _ wd => ∃ (l : List Tm) (xa : Option Addr) (xc : Nat), wd.heap[w1.heap.size]? = some (.cells #[.slice x0 l0.length z0, .slice x1 l1.length z1, .slice xa l.length xc] 43 (0, 0)) ∧ OwnL kTerm w4.heap.size wd (.slice xa l.length xc) l ∧ l.length ≤ 20 ∧ Hid (∀ t ∈ l, STm t) ∧ Aside [w1.heap.size] w4.heap.size w4 wd)
      case first =>
        go_wp2_with fail
        go_loopg [12] Cs.length (fun gh s1 wr => ∃ (i : Nat) (acc : List Tm) (xa : Option Addr) (xc : Nat), s1 = .int .i64 (i : Int) ∧ i ≤ Cs.length ∧ Cs.length ≤ gh + i ∧ acc.length = i ∧ wr.heap[w1.heap.size]? = some (.cells #[.slice x0 l0.length z0, .slice x1 l1.length z1, .slice xa acc.length xc] 43 (0, 0)) ∧ Hid (OwnL kTerm w4.heap.size wr (.slice xa acc.length xc) acc) ∧ Hid (∀ t ∈ acc, STm t) ∧ Aside [w1.heap.size] w4.heap.size w4 wr)
        case atStart => exact ⟨0, [], none, 0, rfl, by omega, by omega, rfl, K4, hide OwnL.nil, hide (fun t h => by simp at h), Aside.refl _⟩
        case round =>
          obtain ⟨i, acc, xa, xc, rfl, hiA, hgi, hal, KR, HO, HST, aR⟩ := hrel
          have yR := aR.size
          have bRw : Below w.heap.size w wr := ((aside (S := [w1.heap.size]) B4).trans aR (B4.size)).below (by simp; omega)
          by_cases hlt : i < Cs.length
          case neg =>
            have hge : ¬ (i : Int) < (Cs.length : Int) := by omega
            go_wp2_with fail
            go_meet
            case rel => exact ⟨acc, xa, xc, KR, HO.out, by omega, HST, aR⟩
          case pos =>
            have hltI : (i : Int) < (Cs.length : Int) := by omega
            obtain ⟨aa', ca', ev, _, _, hat⟩ := (HHC.out.keep (w' := wr) bRw.size (fun i _ hl => bRw.block i hl)).at
            injection ev with ev1 ev2 ev3
            subst ev1
            obtain ⟨b, o, rfl, hb, c0⟩ := hat i hlt
            have hbw : b < w.heap.size := by
              obtain ⟨a8, c8, ev8, _, _, hat8⟩ := HHC.out.at
              injection ev8 with ev9 _ _
              obtain ⟨bx, ox, e8, hb8, _⟩ := hat8 i hlt
              rw [← ev9] at e8
              injection e8 with e8
              injection e8 with e8 _ _
              rw [e8]; exact hb8
            clear hat ev2 ev3
            generalize Cs[i] = z at c0
            have k0 := cell_of KR 2
            simp at k0
            have yA := lt_of KR
            obtain ⟨N, hN⟩ : ∃ N, N = acc.length := ⟨_, rfl⟩
            rw [← hN] at KR HO k0
            have HNN := hide hN
            clear hN
            go_upto_region 17 with fail
            refine wp_region_late (fun w' => w'.cell? ⟨w1.heap.size, 2, none⟩ = some (.slice xa N xc) ∧ w'.cell? ⟨b, o + i, none⟩ = some (.int .i64 z)) (fun j => decide (j = 10)) (by kernel_rfl) ?_
            have k0d : wr.drew.cell? ⟨w1.heap.size, 2, none⟩ = some (.slice xa N xc) := k0
            have c0d : wr.drew.cell? ⟨b, o + i, none⟩ = some (.int .i64 z) := c0
            have hH := And.intro k0d c0d
            have KRd : wr.drew.heap[w1.heap.size]? = some (.cells #[.slice x0 l0.length z0, .slice x1 l1.length z1, .slice xa N xc] 43 (0, 0)) := KR
            have HOd : OwnL kTerm w4.heap.size wr.drew (.slice xa N xc) acc := HO.out.below ((Below.refl _ wr).drew)
            have yRd : wr.drew.heap.size = wr.heap.size := rfl
            have aRd : Aside [w1.heap.size] w4.heap.size w4 wr.drew := aR.drew
            generalize wr.drew = wd at k0d c0d hH KRd HOd yRd aRd ⊢
            refine' wpAnyL_take (i := 0) (oi := { dst := some 78, op := Op.indexAddr 43 (Operand.tmp 9) (Operand.const (Value.int IntKind.i64 2)), type := 0, pos := "law04.go:120", after := #[], guard := none }) (v := _) rfl (by kernel_rfl) (by kernel_rfl) (by kernel_rfl) (by kernel_rfl) (fun _ _ _ h => h) hH (by rfl) ?hyv ?onw
            case hyv =>
              intro wz hSw
              obtain ⟨z0, z1⟩ := hSw
              go_simp
              try rfl
            case onw =>
              try simp only [Act.put, List.setIfInBounds_toArray, List.set_cons_zero, List.set_cons_succ]
              refine' wpAnyL_take (i := 1) (oi := { dst := some 79, op := Op.load 23 (Operand.tmp 78), type := 23, pos := "law04.go:120", after := #[{ on := 0, ground := Ground.data }], guard := none }) (v := _) rfl (by kernel_rfl) (by kernel_rfl) (by kernel_rfl) (by kernel_rfl) (fun _ _ _ h => h) hH (by rfl) ?hyv ?onw
              case hyv =>
                intro wz hSw
                obtain ⟨z0, z1⟩ := hSw
                go_simp
                try rfl
              case onw =>
                try simp only [Act.put, List.setIfInBounds_toArray, List.set_cons_zero, List.set_cons_succ]
                refine' wpAnyL_take (i := 2) (oi := { dst := some 80, op := Op.move (Operand.tmp 2), type := 26, pos := "law04.go:120", after := #[], guard := none }) (v := _) rfl (by kernel_rfl) (by kernel_rfl) (by kernel_rfl) (by kernel_rfl) (fun _ _ _ h => h) hH (by rfl) ?hyv ?onw
                case hyv =>
                  intro wz hSw
                  obtain ⟨z0, z1⟩ := hSw
                  go_simp
                  try rfl
                case onw =>
                  try simp only [Act.put, List.setIfInBounds_toArray, List.set_cons_zero, List.set_cons_succ]
                  refine' wpAnyL_take (i := 3) (oi := { dst := some 81, op := Op.move (Operand.tmp 12), type := 3, pos := "law04.go:120", after := #[], guard := none }) (v := _) rfl (by kernel_rfl) (by kernel_rfl) (by kernel_rfl) (by kernel_rfl) (fun _ _ _ h => h) hH (by rfl) ?hyv ?onw
                  case hyv =>
                    intro wz hSw
                    obtain ⟨z0, z1⟩ := hSw
                    go_simp
                    try rfl
                  case onw =>
                    try simp only [Act.put, List.setIfInBounds_toArray, List.set_cons_zero, List.set_cons_succ]
                    refine' wpAnyL_take (i := 4) (oi := { dst := some 82, op := Op.indexAddr 26 (Operand.tmp 80) (Operand.tmp 81), type := 0, pos := "law04.go:120", after := #[{ on := 2, ground := Ground.data }, { on := 3, ground := Ground.data }], guard := none }) (v := _) rfl (by kernel_rfl) (by kernel_rfl) (by kernel_rfl) (by kernel_rfl) (fun _ _ _ h => h) hH (by rfl) ?hyv ?onw
                    case hyv =>
                      intro wz hSw
                      obtain ⟨z0, z1⟩ := hSw
                      go_simp
                      try rfl
                    case onw =>
                      try simp only [Act.put, List.setIfInBounds_toArray, List.set_cons_zero, List.set_cons_succ]
                      refine' wpAnyL_take (i := 5) (oi := { dst := some 83, op := Op.load 3 (Operand.tmp 82), type := 3, pos := "law04.go:120", after := #[{ on := 4, ground := Ground.data }], guard := none }) (v := _) rfl (by kernel_rfl) (by kernel_rfl) (by kernel_rfl) (by kernel_rfl) (fun _ _ _ h => h) hH (by rfl) ?hyv ?onw
                      case hyv =>
                        intro wz hSw
                        obtain ⟨z0, z1⟩ := hSw
                        go_simp
                        try rfl
                      case onw =>
                        try simp only [Act.put, List.setIfInBounds_toArray, List.set_cons_zero, List.set_cons_succ]
                        refine wpAnyL_one (i := 6) (o := { dst := some 84, op := Op.call { callee := Callee.value (Operand.func 17), args := #[Operand.tmp 83], argTypes := #[3] }, type := 39, pos := "law04.go:120", after := #[{ on := 5, ground := Ground.data }], guard := none }) rfl (by kernel_rfl) (by rfl) (fun K hK => ?_)
                        go_simp
                        refine (sizeTerm_any _ _).mono ?_
                        rintro e wq ⟨t, rfl, hst, b4⟩
                        have hbd : b < wd.heap.size := by rw [yRd]; exact hb
                        have hgd : w1.heap.size < wd.heap.size := by rw [yRd]; exact yA
                        have k04 := (b4.cell (p := ⟨w1.heap.size, 2, none⟩) hgd).trans k0d
                        have c04 := (b4.cell (p := ⟨b, o + i, none⟩) hbd).trans c0d
                        refine hK.out _ _ (fun _ => ⟨k04, c04⟩) ?_
                        clear hK K
                        try simp only [Act.put, List.setIfInBounds_toArray, List.set_cons_zero, List.set_cons_succ]
                        refine wpAnyL_one (i := 7) (o := { dst := some 85, op := Op.buildSlice 23 1 #[(0, Operand.tmp 84)], type := 23, pos := "law04.go:120", after := #[{ on := 6, ground := Ground.data }], guard := none }) rfl (by kernel_rfl) (by rfl) (fun K hK => ?_)
                        go_simp
                        obtain ⟨wL, hwL⟩ : ∃ wL, wL = wq.alloc (.cells #[.int .i64 t.1, .string t.2] 39 (0, 0)) := ⟨_, rfl⟩
                        rw [← hwL]
                        have bL : Below wq.heap.size wq wL := by rw [hwL]; exact (Below.refl _ _).alloc (Nat.le_refl _) _
                        have KL : Blk wL wq.heap.size [t] [] := by unfold Blk; rw [hwL]; exact heap_new wq _
                        clear hwL
                        have bdL := b4.trans (bL.mono b4.size)
                        have k0L := (bdL.cell (p := ⟨w1.heap.size, 2, none⟩) hgd).trans k0d
                        have c0L := (bdL.cell (p := ⟨b, o + i, none⟩) hbd).trans c0d
                        have KRL := (bdL.block _ hgd).trans KRd
                        refine hK.out _ _ (fun _ => ⟨k0L, c0L⟩) ?_
                        clear hK K
                        try simp only [Act.put, List.setIfInBounds_toArray, List.set_cons_zero, List.set_cons_succ]
                        have hlit := blk_terms (c := 1) KL (by simp) (by unfold maxLen; omega) (by simp)
                        have yWd : w4.heap.size ≤ wd.heap.size := by rw [yRd]; exact yR
                        obtain ⟨v8, w8, r8, o8, bc, g8⟩ := run_cat (B := w4.heap.size) (w := wL) (ty := 23) (HOd.below bdL) hlit (Nat.le_trans yWd bdL.size) (by simp; omega)
                        simp only [List.length_singleton] at r8
                        refine wpAnyL_one (i := 8) (o := { dst := some 86, op := Op.call { callee := Callee.builtin Builtin.append, args := #[Operand.tmp 79, Operand.tmp 85], argTypes := #[23, 23] }, type := 23, pos := "law04.go:120", after := #[{ on := 1, ground := Ground.data }, { on := 7, ground := Ground.data }, { on := 6, ground := Ground.chain }], guard := none }) rfl (by kernel_rfl) (by rfl) (fun K hK => ?_)
                        refine oper_cat _ _ rfl _ _ _ (by rfl) (by rfl) r8 ?_
                        have hgW : w1.heap.size < w4.heap.size := y4
                        have k08 := (World.cell?_of_block (w := wL) (a := ⟨w1.heap.size, 2, none⟩) (bc.block _ hgW)).trans k0L
                        have c08 := (World.cell?_of_block (w := wL) (a := ⟨b, o + i, none⟩) (bc.block _ (Nat.lt_of_lt_of_le hbw B4.size))).trans c0L
                        have KR8 := (bc.block _ hgW).trans KRL
                        refine hK.out _ _ (fun _ => ⟨k08, c08⟩) ?_
                        clear hK K
                        try simp only [Act.put, List.setIfInBounds_toArray, List.set_cons_zero, List.set_cons_succ]
                        obtain ⟨ax8, cx8, hv8, _, _⟩ := o8.form
                        subst hv8
                        refine' wpAnyL_take (i := 9) (oi := { dst := some 87, op := Op.indexAddr 43 (Operand.tmp 9) (Operand.const (Value.int IntKind.i64 2)), type := 0, pos := "law04.go:120", after := #[{ on := 0, ground := Ground.phase }, { on := 1, ground := Ground.phase }, { on := 2, ground := Ground.phase }, { on := 3, ground := Ground.phase }, { on := 4, ground := Ground.phase }, { on := 5, ground := Ground.phase }, { on := 6, ground := Ground.phase }, { on := 7, ground := Ground.phase }, { on := 8, ground := Ground.phase }], guard := none }) (v := _) rfl (by kernel_rfl) (by kernel_rfl) (by kernel_rfl) (by kernel_rfl) (fun _ _ _ h => h) (And.intro k08 c08) (by rfl) ?hyv ?onw
                        case hyv =>
                          intro wz hSw
                          obtain ⟨z0, z1⟩ := hSw
                          go_simp
                          try rfl
                        case onw =>
                          try simp only [Act.put, List.setIfInBounds_toArray, List.set_cons_zero, List.set_cons_succ]
                          have f8 := fun o => free_of KR8 o
                          refine wpAnyL_one (i := 10) (o := { dst := none, op := Op.store 23 (Operand.tmp 87) (Operand.tmp 86), type := 0, pos := "law04.go:120", after := #[{ on := 9, ground := Ground.data }, { on := 8, ground := Ground.data }, { on := 8, ground := Ground.chain }, { on := 0, ground := Ground.phase }, { on := 1, ground := Ground.phase }, { on := 2, ground := Ground.phase }, { on := 3, ground := Ground.phase }, { on := 4, ground := Ground.phase }, { on := 5, ground := Ground.phase }, { on := 6, ground := Ground.phase }, { on := 7, ground := Ground.phase }, { on := 8, ground := Ground.phase }], guard := none }) rfl (by kernel_rfl) (by rfl) (fun K hK => ?_)
                          go_simp
                          refine hK.out _ _ (fun h => by cases h) ?_
                          clear hK K
                          try simp only [Act.put, List.setIfInBounds_toArray, List.set_cons_zero, List.set_cons_succ]
                          refine wpAnyL_done (by kernel_rfl) ?_ _
                          have K9 := set_in KR8 2 (.slice ax8 (acc ++ [t]).length cx8)
                          simp only [List.setIfInBounds_toArray, List.set_cons_zero, List.set_cons_succ] at K9
                          have HK9 := hide K9
                          have o9 := o8.set (p := ⟨w1.heap.size, 2, none⟩) hgW (.slice ax8 (acc ++ [t]).length cx8)
                          have HS2 : Hid (∀ x ∈ acc ++ [t], STm x) := hide (fun x hx => by
                            rcases List.mem_append.1 hx with m | m
                            · exact HST.out x m
                            · simp at m; subst m; exact hst)
                          have aL : Aside [w1.heap.size] w4.heap.size w4 w8 := (aRd.trans (aside (S := [w1.heap.size]) bdL) yWd).trans (aside (S := [w1.heap.size]) bc) (Nat.le_refl _)
                          have a9 := aL.trans (Aside.setCell (S := [w1.heap.size]) (B := w4.heap.size) (w := w8) (p := ⟨w1.heap.size, 2, none⟩) (by simp) (.slice ax8 (acc ++ [t]).length cx8)) (Nat.le_refl _)
                          have hl2 : (acc ++ [t]).length = i + 1 := by rw [List.length_append, List.length_singleton]; omega
                          have HL2 := hide hl2
                          have HO9 := hide o9
                          have HA9 := hide a9
                          clear hl2 o9 a9 K9 o8 aL
                          go_wp2_with fail
                          go_roundg (gk - 1)
                          case measure => omega
                          case rel =>
                            have K10 := HK9.out
                            have O10 := HO9.out
                            have A10 := HA9.out
                            rw [HL2.out] at K10 O10 A10
                            exact ⟨i + 1, acc ++ [t], ax8, cx8, by go_num, by omega, by omega, HL2.out, by rw [HL2.out]; exact K10, hide (by rw [HL2.out]; exact O10), HS2, A10⟩
      case rest =>
        obtain ⟨l2, x2, z2, hKn, hOn, hl2, HS2, aN⟩ := hcut
        obtain ⟨w5, hwn⟩ : ∃ w5, w5 = wc := ⟨_, rfl⟩
        rw [← hwn] at hKn hOn aN ⊢
        clear hwn
        have B5 : Below w.heap.size w w5 := ((aside (S := [w1.heap.size]) B4).trans aN (B4.size)).below (by simp; omega)
        have y5 : w1.heap.size < w5.heap.size := lt_of hKn
        have K5 := hKn
        have HW0' := hide (HW0.out.keep aN.size (fun i hi hl => aN.block i hl (by simp; omega)))
        clear HW0
        have HW0 := HW0'
        clear HW0'
        have HW1' := hide (HW1.out.keep aN.size (fun i hi hl => aN.block i hl (by simp; omega)))
        clear HW1
        have HW1 := HW1'
        clear HW1'
        have HW2 := hide hOn
        clear hKn hOn K4
        obtain ⟨n0, hn0⟩ : ∃ n0, n0 = wrap64 ((IntKind.u64.wrap vn).tmod 5) := ⟨_, rfl⟩
        obtain ⟨n1, hn1⟩ : ∃ n1, n1 = wrap64 ((IntKind.u64.wrap ((IntKind.u64.wrap vn).tdiv 5)).tmod 5) := ⟨_, rfl⟩
        obtain ⟨n2, hn2⟩ : ∃ n2, n2 = wrap64 ((IntKind.u64.wrap ((IntKind.u64.wrap vn).tdiv 25)).tmod 5) := ⟨_, rfl⟩
        go_upto_region 20 with fail
        rw [← hn0, ← hn1, ← hn2]
        have HR0 : Hid (0 ≤ n0 ∧ n0 ≤ 4) := hide (by rw [hn0]; exact rem5 _)
        have HR1 : Hid (0 ≤ n1 ∧ n1 ≤ 4) := hide (by rw [hn1]; exact rem5 _)
        have HR2 : Hid (0 ≤ n2 ∧ n2 ≤ 4) := hide (by rw [hn2]; exact rem5 _)
        clear hn0 hn1 hn2
        obtain ⟨w6, hw6⟩ : ∃ w6, w6 = w5.alloc (.cells #[.string ⟨#[107]⟩, .string ⟨#[109]⟩, .string ⟨#[110]⟩] 9 (0, 0)) := ⟨_, rfl⟩
        rw [← hw6]
        obtain ⟨w7, hw7⟩ : ∃ w7, w7 = w6.alloc (.cells #[.int .i64 n0, .int .i64 n1, .int .i64 n2] 3 (0, 0)) := ⟨_, rfl⟩
        rw [← hw7]
        have b6 : Below w5.heap.size w5 w6 := by rw [hw6]; exact (Below.refl _ _).alloc (Nat.le_refl _) _
        have b7 : Below w6.heap.size w6 w7 := by rw [hw7]; exact (Below.refl _ _).alloc (Nat.le_refl _) _
        have z6 : w6.heap.size = w5.heap.size + 1 := by rw [hw6]; simp
        have K6 : w6.heap[w5.heap.size]? = some (.cells (names3.map Value.string).toArray 9 (0, 0)) := by rw [hw6, heap_new]; rfl
        have K7 : w7.heap[w5.heap.size + 1]? = some (.cells (([n0, n1, n2] : List Int).map (Value.int .i64)).toArray 3 (0, 0)) := by rw [hw7, ← z6]; exact heap_new _ _
        clear hw6 hw7
        have b57 := b6.trans (b7.mono b6.size)
        have B7 := B5.trans (b57.mono B5.size)
        have KA := (b57.block _ y5).trans K5
        have KN := (b7.block _ (lt_of K6)).trans K6
        have NM := hide (blk_names KN (by decide))
        have NM2 := hide (blk_names2 KN)
        have IN := hide (blk_ints K7 (ints3 _ _ _))
        have T0 : HTerms (fun _ => True) w7 (.slice x0 l0.length z0) l0 := ((terms_row HW0.out.row).wide (fun _ _ _ => trivial)).keep b57.size (fun i _ hl => b57.block i hl)
        have T1 : HTerms (fun _ => True) w7 (.slice x1 l1.length z1) l1 := ((terms_row HW1.out.row).wide (fun _ _ _ => trivial)).keep b57.size (fun i _ hl => b57.block i hl)
        have T2 : HTerms (fun _ => True) w7 (.slice x2 l2.length z2) l2 := ((terms_row HW2.out.row).wide (fun _ _ _ => trivial)).keep b57.size (fun i _ hl => b57.block i hl)
        have SZ := hide (arr_sizes KA T1 T2)
        have HT0 := hide T0
        have HT1 := hide T1
        have HT2 := hide T2
        have HKI := hide K7
        clear T0 T1 T2 K7 K6 KN b6 b7 b57 K5
        have HKA := hide KA
        have k0 := cell_of KA 0
        simp at k0
        have yA := lt_of KA
        clear KA
        obtain ⟨wl, hwl⟩ : ∃ wl, wl = withL names2 [l1, l2] l0 := ⟨_, rfl⟩
        have HWL := hide hwl
        clear hwl
        have HZ := hide (wcode_2 HS0.out HS1.out HS2.out hl0 hl1 hl2)
        have hwll : wl.length ≤ 400 := by have := withL_len20 hl1 hl2 l0 HS0.out; rw [HWL.out]; omega
        have HGW : Hid (∀ t ∈ wl, GTm t ∧ t.2.size ≤ maxLen) := hide (by rw [HWL.out]; exact withL_g HS0.out HS1.out HS2.out)
        go_cut [15, 16] (fun v15 v16 wd => ∃ (ua : Option Addr) (uc bf : Nat), v15 = .slice ua wl.length uc ∧ v16 = .pointer (some ⟨bf, 0, none⟩) ∧ Hid (HTerms (fun i => i ≠ bf) wd (.slice ua wl.length uc) wl) ∧ wd.heap[bf]? = some (.cells #[.int .i64 0, .int .i64 0] 30 (0, 0)) ∧ Below w7.heap.size w7 wd)
        case first =>
          refine wp_region_late (fun w' => w'.cell? ⟨w1.heap.size, 0, none⟩ = some (.slice x0 l0.length z0)) (fun j => decide (j = 11)) (by kernel_rfl) ?_
          have Bd : Below w7.heap.size w7 w7.drew := (Below.refl _ _).drew
          have kd : w7.drew.cell? ⟨w1.heap.size, 0, none⟩ = some (.slice x0 l0.length z0) := k0
          generalize w7.drew = wd at Bd kd ⊢
          refine' wpAnyL_take (i := 0) (oi := { dst := some 105, op := Op.indexAddr 43 (Operand.tmp 9) (Operand.const (Value.int IntKind.i64 0)), type := 0, pos := "law04.go:124", after := #[], guard := none }) (v := _) rfl (by kernel_rfl) (by kernel_rfl) (by kernel_rfl) (by kernel_rfl) (fun _ _ _ h => h) kd (by rfl) ?hyv ?onw
          case hyv =>
            intro wz hSw
            have z0 := hSw
            go_simp
            try rfl
          case onw =>
            try simp only [Act.put, List.setIfInBounds_toArray, List.set_cons_zero, List.set_cons_succ]
            refine' wpAnyL_take (i := 1) (oi := { dst := some 106, op := Op.load 23 (Operand.tmp 105), type := 23, pos := "law04.go:124", after := #[{ on := 0, ground := Ground.data }], guard := none }) (v := _) rfl (by kernel_rfl) (by kernel_rfl) (by kernel_rfl) (by kernel_rfl) (fun _ _ _ h => h) kd (by rfl) ?hyv ?onw
            case hyv =>
              intro wz hSw
              have z0 := hSw
              go_simp
              try rfl
            case onw =>
              try simp only [Act.put, List.setIfInBounds_toArray, List.set_cons_zero, List.set_cons_succ]
              refine' wpAnyL_take (i := 2) (oi := { dst := some 107, op := Op.move (Operand.tmp 13), type := 24, pos := "law04.go:124", after := #[], guard := none }) (v := _) rfl (by kernel_rfl) (by kernel_rfl) (by kernel_rfl) (by kernel_rfl) (fun _ _ _ h => h) kd (by rfl) ?hyv ?onw
              case hyv =>
                intro wz hSw
                have z0 := hSw
                go_simp
                try rfl
              case onw =>
                try simp only [Act.put, List.setIfInBounds_toArray, List.set_cons_zero, List.set_cons_succ]
                refine' wpAnyL_take (i := 3) (oi := { dst := some 108, op := Op.slice 24 (Operand.tmp 107) none (some (Operand.const (Value.int IntKind.i64 2))) none, type := 24, pos := "law04.go:124", after := #[{ on := 2, ground := Ground.data }], guard := none }) (v := _) rfl (by kernel_rfl) (by kernel_rfl) (by kernel_rfl) (by kernel_rfl) (fun _ _ _ h => h) kd (by rfl) ?hyv ?onw
                case hyv =>
                  intro wz hSw
                  have z0 := hSw
                  go_simp
                  try rfl
                case onw =>
                  try simp only [Act.put, List.setIfInBounds_toArray, List.set_cons_zero, List.set_cons_succ]
                  refine' wpAnyL_take (i := 4) (oi := { dst := some 109, op := Op.slice 43 (Operand.tmp 9) (some (Operand.const (Value.int IntKind.i64 1))) none none, type := 25, pos := "law04.go:124", after := #[], guard := none }) (v := _) rfl (by kernel_rfl) (by kernel_rfl) (by kernel_rfl) (by kernel_rfl) (fun _ _ _ h => h) kd (by rfl) ?hyv ?onw
                  case hyv =>
                    intro wz hSw
                    have z0 := hSw
                    go_simp
                    try rfl
                  case onw =>
                    try simp only [Act.put, List.setIfInBounds_toArray, List.set_cons_zero, List.set_cons_succ]
                    have B_wd := Bd
                    refine wpAnyL_two (i := 5) (j := 9) (oi := { dst := some 110, op := Op.call { callee := Callee.value (Operand.func 10), args := #[Operand.tmp 106, Operand.tmp 108, Operand.tmp 109], argTypes := #[23, 24, 25] }, type := 31, pos := "law04.go:124", after := #[{ on := 1, ground := Ground.data }, { on := 3, ground := Ground.data }, { on := 4, ground := Ground.data }], guard := none }) (oj := { dst := some 16, op := Op.alloc 30, type := 0, pos := "law04.go:124", after := #[], guard := none }) rfl rfl (by kernel_rfl) (by rfl) (by rfl) (fun K hK => ?_) (fun K hK => ?_)
                    · skip
                      go_simp
                      refine (with_any (HT0.out.keep B_wd.size (fun i _ hl => B_wd.block i hl)) (NM2.out.keep B_wd.size (fun i _ hl => B_wd.block i hl)) (SZ.out.keep B_wd.size (fun i _ hl => B_wd.block i hl)) (fun t h => st_size (HS0.out t h)) names2_size (by simp) (fun m hm => by simp at hm; rcases hm with rfl | rfl <;> omega)).mono ?_
                      rintro e wa ⟨u, c, a, rfl, hW, bt⟩
                      obtain ⟨rfl, rfl, own⟩ := withP_2 hW HZ.out
                      rw [← HWL.out] at own
                      obtain ⟨ua, uc, rfl, _, _⟩ := own.form
                      have B_wa := B_wd.trans (bt.mono B_wd.size)
                      have k_wa := (B_wa.cell (p := ⟨w1.heap.size, 0, none⟩) yA).trans k0
                      refine hK.out _ _ (fun _ => k_wa) ?_
                      clear hK K hW
                      try simp only [Act.put, List.setIfInBounds_toArray, List.set_cons_zero, List.set_cons_succ]
                      refine' wpAnyL_take (i := 6) (oi := { dst := some 104, op := Op.move (Operand.tmp 110), type := 31, pos := "law04.go:124", after := #[{ on := 5, ground := Ground.data }], guard := none }) (v := _) rfl (by kernel_rfl) (by kernel_rfl) (by kernel_rfl) (by kernel_rfl) (fun _ _ _ h => h) k_wa (by rfl) ?hyv ?onw
                      case hyv =>
                        intro wz hSw
                        have z0 := hSw
                        go_simp
                        try rfl
                      case onw =>
                        try simp only [Act.put, List.setIfInBounds_toArray, List.set_cons_zero, List.set_cons_succ]
                        refine' wpAnyL_take (i := 7) (oi := { dst := some 111, op := Op.extract (Operand.tmp 104) 0, type := 23, pos := "law04.go:124", after := #[{ on := 6, ground := Ground.data }], guard := none }) (v := _) rfl (by kernel_rfl) (by kernel_rfl) (by kernel_rfl) (by kernel_rfl) (fun _ _ _ h => h) k_wa (by rfl) ?hyv ?onw
                        case hyv =>
                          intro wz hSw
                          have z0 := hSw
                          go_simp
                          try rfl
                        case onw =>
                          try simp only [Act.put, List.setIfInBounds_toArray, List.set_cons_zero, List.set_cons_succ]
                          refine' wpAnyL_take (i := 8) (oi := { dst := some 112, op := Op.extract (Operand.tmp 104) 1, type := 30, pos := "law04.go:124", after := #[{ on := 6, ground := Ground.data }, { on := 10, ground := Ground.gcOnly Departure.lateStores }], guard := none }) (v := _) rfl (by kernel_rfl) (by kernel_rfl) (by kernel_rfl) (by kernel_rfl) (fun _ _ _ h => h) k_wa (by rfl) ?hyv ?onw
                          case hyv =>
                            intro wz hSw
                            have z0 := hSw
                            go_simp
                            try rfl
                          case onw =>
                            try simp only [Act.put, List.setIfInBounds_toArray, List.set_cons_zero, List.set_cons_succ]
                            refine wpAnyL_one (i := 9) (o := { dst := some 16, op := Op.alloc 30, type := 0, pos := "law04.go:124", after := #[], guard := none }) rfl (by kernel_rfl) (by rfl) (fun K hK => ?_)
                            have bt0 := bt
                            clear bt
                            go_simp
                            obtain ⟨wb, hY⟩ : ∃ wb, wb = wa.alloc (.cells #[.int .i64 0, .int .i64 0] 30 (0, 0)) := ⟨_, rfl⟩
                            rw [← hY]
                            have bt : Below wa.heap.size wa wb := by rw [hY]; exact (Below.refl _ _).alloc (Nat.le_refl _) _
                            have KF : wb.heap[wa.heap.size]? = some (.cells #[.int .i64 0, .int .i64 0] 30 (0, 0)) := by rw [hY]; exact heap_new _ _
                            clear hY
                            have B_wb := B_wa.trans (bt.mono B_wa.size)
                            have k_wb := (B_wb.cell (p := ⟨w1.heap.size, 0, none⟩) yA).trans k0
                            refine hK.out _ _ (fun _ => k_wb) ?_
                            clear hK K
                            try simp only [Act.put, List.setIfInBounds_toArray, List.set_cons_zero, List.set_cons_succ]
                            have HM : HTerms (fun i => i ≠ wa.heap.size) wb (.slice ua wl.length uc) wl := ((terms_row own.row).wide (fun i _ hl => by omega)).keep bt.size (fun i _ hl => bt.block i (by omega))
                            have hbf : w7.heap.size ≤ wa.heap.size := B_wa.size
                            refine' wpAnyL_take (i := 10) (oi := { dst := some 15, op := Op.assign (Operand.tmp 111), type := 23, pos := "law04.go:124", after := #[{ on := 7, ground := Ground.data }, { on := 5, ground := Ground.chain }, { on := 0, ground := Ground.phase }, { on := 1, ground := Ground.phase }, { on := 2, ground := Ground.phase }, { on := 3, ground := Ground.phase }, { on := 4, ground := Ground.phase }, { on := 5, ground := Ground.phase }, { on := 6, ground := Ground.phase }, { on := 7, ground := Ground.phase }, { on := 8, ground := Ground.textOnly Departure.lateStores }, { on := 9, ground := Ground.phase }], guard := none }) (v := _) rfl (by kernel_rfl) (by kernel_rfl) (by kernel_rfl) (by kernel_rfl) (fun _ _ _ h => h) k_wb (by rfl) ?hyv ?onw
                            case hyv =>
                              intro wz hSw
                              have z0 := hSw
                              go_simp
                              try rfl
                            case onw =>
                              try simp only [Act.put, List.setIfInBounds_toArray, List.set_cons_zero, List.set_cons_succ]
                              have ff := fun o => free_of KF o
                              have c0 := cell_of KF 0
                              have K1 := set_in KF 0 (.int .i64 0)
                              simp only [List.setIfInBounds_toArray, List.set_cons_zero, List.set_cons_succ] at K1
                              have c1 := cell_of K1 1
                              have fg := fun o => free_of K1 o
                              simp at c0 c1
                              refine wpAnyL_one (i := 11) (o := { dst := none, op := Op.store 30 (Operand.tmp 16) (Operand.tmp 112), type := 0, pos := "law04.go:124", after := #[{ on := 9, ground := Ground.data }, { on := 8, ground := Ground.data }, { on := 10, ground := Ground.chain }, { on := 0, ground := Ground.phase }, { on := 1, ground := Ground.phase }, { on := 2, ground := Ground.phase }, { on := 3, ground := Ground.phase }, { on := 4, ground := Ground.phase }, { on := 5, ground := Ground.phase }, { on := 6, ground := Ground.phase }, { on := 7, ground := Ground.phase }, { on := 8, ground := Ground.phase }, { on := 9, ground := Ground.phase }, { on := 10, ground := Ground.phase }], guard := none }) rfl (by kernel_rfl) (by rfl) (fun K hK => ?_)
                              go_simp
                              refine hK.out _ _ (fun h => by cases h) ?_
                              clear hK K
                              try simp only [Act.put, List.setIfInBounds_toArray, List.set_cons_zero, List.set_cons_succ]
                              refine wpAnyL_done (by kernel_rfl) ?_ _
                              have K2 := set_in K1 1 (.int .i64 0)
                              simp only [List.setIfInBounds_toArray, List.set_cons_zero, List.set_cons_succ] at K2
                              have HK2 := hide K2
                              have HM2 := hide ((HM.set (p := ⟨wa.heap.size, 0, none⟩) (fun h => h rfl) (.int .i64 0)).set (p := ⟨wa.heap.size, 1, none⟩) (fun h => h rfl) (.int .i64 0))
                              have B2x := hide ((B_wb.setCell (p := ⟨wa.heap.size, 0, none⟩) hbf (.int .i64 0)).setCell (p := ⟨wa.heap.size, 1, none⟩) hbf (.int .i64 0))
                              clear K1 K2 HM ff KF
                              go_wp2_with fail
                              go_meet
                              case rel => exact ⟨ua, uc, wa.heap.size, rfl, rfl, HM2, HK2.out, B2x.out⟩
                    · skip
                      go_simp
                      obtain ⟨wa, hY⟩ : ∃ wa, wa = wd.alloc (.cells #[.int .i64 0, .int .i64 0] 30 (0, 0)) := ⟨_, rfl⟩
                      rw [← hY]
                      have bt : Below wd.heap.size wd wa := by rw [hY]; exact (Below.refl _ _).alloc (Nat.le_refl _) _
                      have KF : wa.heap[wd.heap.size]? = some (.cells #[.int .i64 0, .int .i64 0] 30 (0, 0)) := by rw [hY]; exact heap_new _ _
                      clear hY
                      have B_wa := B_wd.trans (bt.mono B_wd.size)
                      have k_wa := (B_wa.cell (p := ⟨w1.heap.size, 0, none⟩) yA).trans k0
                      refine hK.out _ _ (fun _ => k_wa) ?_
                      clear hK K
                      try simp only [Act.put, List.setIfInBounds_toArray, List.set_cons_zero, List.set_cons_succ]
                      refine wpAnyL_one (i := 5) (o := { dst := some 110, op := Op.call { callee := Callee.value (Operand.func 10), args := #[Operand.tmp 106, Operand.tmp 108, Operand.tmp 109], argTypes := #[23, 24, 25] }, type := 31, pos := "law04.go:124", after := #[{ on := 1, ground := Ground.data }, { on := 3, ground := Ground.data }, { on := 4, ground := Ground.data }], guard := none }) rfl (by kernel_rfl) (by rfl) (fun K hK => ?_)
                      have bt0 := bt
                      clear bt
                      have ybf : wd.heap.size < wa.heap.size := lt_of KF
                      go_simp
                      refine (with_any (HT0.out.keep B_wa.size (fun i _ hl => B_wa.block i hl)) (NM2.out.keep B_wa.size (fun i _ hl => B_wa.block i hl)) (SZ.out.keep B_wa.size (fun i _ hl => B_wa.block i hl)) (fun t h => st_size (HS0.out t h)) names2_size (by simp) (fun m hm => by simp at hm; rcases hm with rfl | rfl <;> omega)).mono ?_
                      rintro e wb ⟨u, c, a, rfl, hW, bt⟩
                      obtain ⟨rfl, rfl, own⟩ := withP_2 hW HZ.out
                      rw [← HWL.out] at own
                      obtain ⟨ua, uc, rfl, _, _⟩ := own.form
                      have B_wb := B_wa.trans (bt.mono B_wa.size)
                      have k_wb := (B_wb.cell (p := ⟨w1.heap.size, 0, none⟩) yA).trans k0
                      refine hK.out _ _ (fun _ => k_wb) ?_
                      clear hK K hW
                      try simp only [Act.put, List.setIfInBounds_toArray, List.set_cons_zero, List.set_cons_succ]
                      have KFb := (bt.block _ ybf).trans KF
                      clear KF
                      have KF := KFb
                      clear KFb
                      refine' wpAnyL_take (i := 6) (oi := { dst := some 104, op := Op.move (Operand.tmp 110), type := 31, pos := "law04.go:124", after := #[{ on := 5, ground := Ground.data }], guard := none }) (v := _) rfl (by kernel_rfl) (by kernel_rfl) (by kernel_rfl) (by kernel_rfl) (fun _ _ _ h => h) k_wb (by rfl) ?hyv ?onw
                      case hyv =>
                        intro wz hSw
                        have z0 := hSw
                        go_simp
                        try rfl
                      case onw =>
                        try simp only [Act.put, List.setIfInBounds_toArray, List.set_cons_zero, List.set_cons_succ]
                        refine' wpAnyL_take (i := 7) (oi := { dst := some 111, op := Op.extract (Operand.tmp 104) 0, type := 23, pos := "law04.go:124", after := #[{ on := 6, ground := Ground.data }], guard := none }) (v := _) rfl (by kernel_rfl) (by kernel_rfl) (by kernel_rfl) (by kernel_rfl) (fun _ _ _ h => h) k_wb (by rfl) ?hyv ?onw
                        case hyv =>
                          intro wz hSw
                          have z0 := hSw
                          go_simp
                          try rfl
                        case onw =>
                          try simp only [Act.put, List.setIfInBounds_toArray, List.set_cons_zero, List.set_cons_succ]
                          refine' wpAnyL_take (i := 8) (oi := { dst := some 112, op := Op.extract (Operand.tmp 104) 1, type := 30, pos := "law04.go:124", after := #[{ on := 6, ground := Ground.data }, { on := 10, ground := Ground.gcOnly Departure.lateStores }], guard := none }) (v := _) rfl (by kernel_rfl) (by kernel_rfl) (by kernel_rfl) (by kernel_rfl) (fun _ _ _ h => h) k_wb (by rfl) ?hyv ?onw
                          case hyv =>
                            intro wz hSw
                            have z0 := hSw
                            go_simp
                            try rfl
                          case onw =>
                            try simp only [Act.put, List.setIfInBounds_toArray, List.set_cons_zero, List.set_cons_succ]
                            have HM : HTerms (fun i => i ≠ wd.heap.size) wb (.slice ua wl.length uc) wl := (terms_row own.row).wide (fun i h _ => by omega)
                            have hbf : w7.heap.size ≤ wd.heap.size := B_wd.size
                            refine' wpAnyL_take (i := 10) (oi := { dst := some 15, op := Op.assign (Operand.tmp 111), type := 23, pos := "law04.go:124", after := #[{ on := 7, ground := Ground.data }, { on := 5, ground := Ground.chain }, { on := 0, ground := Ground.phase }, { on := 1, ground := Ground.phase }, { on := 2, ground := Ground.phase }, { on := 3, ground := Ground.phase }, { on := 4, ground := Ground.phase }, { on := 5, ground := Ground.phase }, { on := 6, ground := Ground.phase }, { on := 7, ground := Ground.phase }, { on := 8, ground := Ground.textOnly Departure.lateStores }, { on := 9, ground := Ground.phase }], guard := none }) (v := _) rfl (by kernel_rfl) (by kernel_rfl) (by kernel_rfl) (by kernel_rfl) (fun _ _ _ h => h) k_wb (by rfl) ?hyv ?onw
                            case hyv =>
                              intro wz hSw
                              have z0 := hSw
                              go_simp
                              try rfl
                            case onw =>
                              try simp only [Act.put, List.setIfInBounds_toArray, List.set_cons_zero, List.set_cons_succ]
                              have ff := fun o => free_of KF o
                              have c0 := cell_of KF 0
                              have K1 := set_in KF 0 (.int .i64 0)
                              simp only [List.setIfInBounds_toArray, List.set_cons_zero, List.set_cons_succ] at K1
                              have c1 := cell_of K1 1
                              have fg := fun o => free_of K1 o
                              simp at c0 c1
                              refine wpAnyL_one (i := 11) (o := { dst := none, op := Op.store 30 (Operand.tmp 16) (Operand.tmp 112), type := 0, pos := "law04.go:124", after := #[{ on := 9, ground := Ground.data }, { on := 8, ground := Ground.data }, { on := 10, ground := Ground.chain }, { on := 0, ground := Ground.phase }, { on := 1, ground := Ground.phase }, { on := 2, ground := Ground.phase }, { on := 3, ground := Ground.phase }, { on := 4, ground := Ground.phase }, { on := 5, ground := Ground.phase }, { on := 6, ground := Ground.phase }, { on := 7, ground := Ground.phase }, { on := 8, ground := Ground.phase }, { on := 9, ground := Ground.phase }, { on := 10, ground := Ground.phase }], guard := none }) rfl (by kernel_rfl) (by rfl) (fun K hK => ?_)
                              go_simp
                              refine hK.out _ _ (fun h => by cases h) ?_
                              clear hK K
                              try simp only [Act.put, List.setIfInBounds_toArray, List.set_cons_zero, List.set_cons_succ]
                              refine wpAnyL_done (by kernel_rfl) ?_ _
                              have K2 := set_in K1 1 (.int .i64 0)
                              simp only [List.setIfInBounds_toArray, List.set_cons_zero, List.set_cons_succ] at K2
                              have HK2 := hide K2
                              have HM2 := hide ((HM.set (p := ⟨wd.heap.size, 0, none⟩) (fun h => h rfl) (.int .i64 0)).set (p := ⟨wd.heap.size, 1, none⟩) (fun h => h rfl) (.int .i64 0))
                              have B2x := hide ((B_wb.setCell (p := ⟨wd.heap.size, 0, none⟩) hbf (.int .i64 0)).setCell (p := ⟨wd.heap.size, 1, none⟩) hbf (.int .i64 0))
                              clear K1 K2 HM ff KF
                              go_wp2_with fail
                              go_meet
                              case rel => exact ⟨ua, uc, wd.heap.size, rfl, rfl, HM2, HK2.out, B2x.out⟩
        case rest =>
          obtain ⟨ua, uc, bf, rfl, rfl, HM, KF, b8⟩ := hcut
          obtain ⟨w8, hw8⟩ : ∃ w8, w8 = wc := ⟨_, rfl⟩
          rw [← hw8] at HM KF b8 ⊢
          clear hw8 k0
          have F1 := hide KF
          have yf1 := lt_of KF
          clear KF
          have hv := value_any HM.out (NM.out.keep b8.size (fun i _ hl => b8.block i hl)) (IN.out.keep b8.size (fun i _ hl => b8.block i hl)) (fun t h => (HGW.out t h).2) names3_size (by simp)
          go_wp2_with fail
          refine hv.mono ?_
          rintro e w9 ⟨x, c, ex, rfl, hp, bt⟩
          clear hv
          obtain ⟨rfl, hx⟩ := val3g (fun t h => (HGW.out t h).1) (by omega) (small_04 HR0.out) (small_04 HR1.out) (small_04 HR2.out) hp
          have HVx := hide hx
          clear hp hx
          have b9 : Below w7.heap.size w7 w9 := b8.trans (bt.mono b8.size)
          have F1' := hide ((bt.block _ yf1).trans F1.out)
          have yf1' := Nat.lt_of_lt_of_le yf1 bt.size
          clear F1 yf1
          have F1 := F1'
          have yf1 := yf1'
          clear F1' yf1'
          clear bt
          go_upto_region 22 with fail
          obtain ⟨w10, hwn⟩ : ∃ w10, w10 = w9.alloc (.cells #[.int .i64 0, .int .i64 ex] 30 (0, 0)) := ⟨_, rfl⟩
          have bt : Below w9.heap.size w9 w10 := by rw [hwn]; exact (Below.refl _ _).alloc (Nat.le_refl _) _
          have KF : w10.heap[w9.heap.size]? = some (.cells #[.int .i64 0, .int .i64 ex] 30 (0, 0)) := by rw [hwn]; exact heap_new _ _
          rw [← hwn]
          clear hwn
          have b10 : Below w7.heap.size w7 w10 := b9.trans (bt.mono b9.size)
          have F1' := hide ((bt.block _ yf1).trans F1.out)
          have yf1' := Nat.lt_of_lt_of_le yf1 bt.size
          clear F1 yf1
          have F1 := F1'
          have yf1 := yf1'
          clear F1' yf1'
          have F2 := hide KF
          have yf2 := lt_of KF
          clear KF bt
          clear HM
          have hv := value_any (HT1.out.keep b10.size (fun i _ hl => b10.block i hl)) (NM.out.keep b10.size (fun i _ hl => b10.block i hl)) (IN.out.keep b10.size (fun i _ hl => b10.block i hl)) (fun t h => st_size (HS1.out t h)) names3_size (by simp)
          have kc := cell_of ((b10.block _ yA).trans HKA.out) 1
          simp at kc
          go_wp2_with fail
          refine hv.mono ?_
          rintro e w11 ⟨y, c, ey, rfl, hp, bt⟩
          clear hv
          clear kc
          obtain ⟨rfl, hy⟩ := val3g (fun t h => (HS1.out t h).g) (by omega) (small_04 HR0.out) (small_04 HR1.out) (small_04 HR2.out) hp
          have HVy := hide hy
          clear hp hy
          have b11 : Below w7.heap.size w7 w11 := b10.trans (bt.mono b10.size)
          have F1' := hide ((bt.block _ yf1).trans F1.out)
          have yf1' := Nat.lt_of_lt_of_le yf1 bt.size
          clear F1 yf1
          have F1 := F1'
          have yf1 := yf1'
          clear F1' yf1'
          have F2' := hide ((bt.block _ yf2).trans F2.out)
          have yf2' := Nat.lt_of_lt_of_le yf2 bt.size
          clear F2 yf2
          have F2 := F2'
          have yf2 := yf2'
          clear F2' yf2'
          clear bt
          go_upto_region 23 with fail
          obtain ⟨w12, hwn⟩ : ∃ w12, w12 = w11.alloc (.cells #[.int .i64 0, .int .i64 ey] 30 (0, 0)) := ⟨_, rfl⟩
          have bt : Below w11.heap.size w11 w12 := by rw [hwn]; exact (Below.refl _ _).alloc (Nat.le_refl _) _
          have KF : w12.heap[w11.heap.size]? = some (.cells #[.int .i64 0, .int .i64 ey] 30 (0, 0)) := by rw [hwn]; exact heap_new _ _
          rw [← hwn]
          clear hwn
          have b12 : Below w7.heap.size w7 w12 := b11.trans (bt.mono b11.size)
          have F1' := hide ((bt.block _ yf1).trans F1.out)
          have yf1' := Nat.lt_of_lt_of_le yf1 bt.size
          clear F1 yf1
          have F1 := F1'
          have yf1 := yf1'
          clear F1' yf1'
          have F2' := hide ((bt.block _ yf2).trans F2.out)
          have yf2' := Nat.lt_of_lt_of_le yf2 bt.size
          clear F2 yf2
          have F2 := F2'
          have yf2 := yf2'
          clear F2' yf2'
          have F3 := hide KF
          have yf3 := lt_of KF
          clear KF bt
          have hv := value_any (HT2.out.keep b12.size (fun i _ hl => b12.block i hl)) (NM.out.keep b12.size (fun i _ hl => b12.block i hl)) (IN.out.keep b12.size (fun i _ hl => b12.block i hl)) (fun t h => st_size (HS2.out t h)) names3_size (by simp)
          have kc := cell_of ((b12.block _ yA).trans HKA.out) 2
          simp at kc
          go_wp2_with fail
          refine hv.mono ?_
          rintro e w13 ⟨z, c, ez, rfl, hp, bt⟩
          clear hv
          clear kc
          obtain ⟨rfl, hz⟩ := val3g (fun t h => (HS2.out t h).g) (by omega) (small_04 HR0.out) (small_04 HR1.out) (small_04 HR2.out) hp
          have HVz := hide hz
          clear hp hz
          have b13 : Below w7.heap.size w7 w13 := b12.trans (bt.mono b12.size)
          have F1' := hide ((bt.block _ yf1).trans F1.out)
          have yf1' := Nat.lt_of_lt_of_le yf1 bt.size
          clear F1 yf1
          have F1 := F1'
          have yf1 := yf1'
          clear F1' yf1'
          have F2' := hide ((bt.block _ yf2).trans F2.out)
          have yf2' := Nat.lt_of_lt_of_le yf2 bt.size
          clear F2 yf2
          have F2 := F2'
          have yf2 := yf2'
          clear F2' yf2'
          have F3' := hide ((bt.block _ yf3).trans F3.out)
          have yf3' := Nat.lt_of_lt_of_le yf3 bt.size
          clear F3 yf3
          have F3 := F3'
          have yf3 := yf3'
          clear F3' yf3'
          clear bt
          go_upto_region 24 with fail
          obtain ⟨w14, hwn⟩ : ∃ w14, w14 = w13.alloc (.cells #[.int .i64 0, .int .i64 ez] 30 (0, 0)) := ⟨_, rfl⟩
          have bt : Below w13.heap.size w13 w14 := by rw [hwn]; exact (Below.refl _ _).alloc (Nat.le_refl _) _
          have KF : w14.heap[w13.heap.size]? = some (.cells #[.int .i64 0, .int .i64 ez] 30 (0, 0)) := by rw [hwn]; exact heap_new _ _
          rw [← hwn]
          clear hwn
          have b14 : Below w7.heap.size w7 w14 := b13.trans (bt.mono b13.size)
          have F1' := hide ((bt.block _ yf1).trans F1.out)
          have yf1' := Nat.lt_of_lt_of_le yf1 bt.size
          clear F1 yf1
          have F1 := F1'
          have yf1 := yf1'
          clear F1' yf1'
          have F2' := hide ((bt.block _ yf2).trans F2.out)
          have yf2' := Nat.lt_of_lt_of_le yf2 bt.size
          clear F2 yf2
          have F2 := F2'
          have yf2 := yf2'
          clear F2' yf2'
          have F3' := hide ((bt.block _ yf3).trans F3.out)
          have yf3' := Nat.lt_of_lt_of_le yf3 bt.size
          clear F3 yf3
          have F3 := F3'
          have yf3 := yf3'
          clear F3' yf3'
          have F4 := hide KF
          have yf4 := lt_of KF
          clear KF bt
          have k0 := cell_of ((b14.block _ yA).trans HKA.out) 0
          simp at k0
          have yI := lt_of HKI.out
          have k2 := cell_of ((b14.block _ yI).trans HKI.out) 2
          simp at k2
          have HSY : Hid (small y = true) := hide (by rw [HVy.out]; exact val_small HS1.out hl1 HR0.out HR1.out HR2.out)
          have HSZ : Hid (small z = true) := hide (by rw [HVz.out]; exact val_small HS2.out hl2 HR0.out HR1.out HR2.out)
          have yA14 : w1.heap.size < w14.heap.size := Nat.lt_of_lt_of_le yA b14.size
          have yI14 : w5.heap.size + 1 < w14.heap.size := Nat.lt_of_lt_of_le yI b14.size
          go_cut [23, 24] (fun v23 v24 wd => ∃ (u eu : Int) (bd : Nat), v23 = .int .i64 u ∧ v24 = .pointer (some ⟨bd, 0, none⟩) ∧ Hid (u = valOf (V3 y z n2) (l0.map te)) ∧ wd.heap[bd]? = some (.cells #[.int .i64 0, .int .i64 eu] 30 (0, 0)) ∧ Below w14.heap.size w14 wd)
          case first =>
            refine wp_region_late (fun w' => w'.cell? ⟨w1.heap.size, 0, none⟩ = some (.slice x0 l0.length z0) ∧ w'.cell? ⟨w5.heap.size + 1, 2, none⟩ = some (.int .i64 n2)) (fun j => decide (j = 15)) (by kernel_rfl) ?_
            have B_wd : Below w14.heap.size w14 w14.drew := (Below.refl _ _).drew
            have k_wd : w14.drew.cell? ⟨w1.heap.size, 0, none⟩ = some (.slice x0 l0.length z0) ∧ w14.drew.cell? ⟨w5.heap.size + 1, 2, none⟩ = some (.int .i64 n2) := ⟨k0, k2⟩
            generalize w14.drew = wd at B_wd k_wd ⊢
            refine' wpAnyL_take (i := 0) (oi := { dst := some 137, op := Op.indexAddr 43 (Operand.tmp 9) (Operand.const (Value.int IntKind.i64 0)), type := 0, pos := "law04.go:128", after := #[], guard := none }) (v := _) rfl (by kernel_rfl) (by kernel_rfl) (by kernel_rfl) (by kernel_rfl) (fun _ _ _ h => h) k_wd (by rfl) ?hyv ?onw
            case hyv =>
              intro wz hSw
              obtain ⟨z1, z2⟩ := hSw
              go_simp
              try rfl
            case onw =>
              try simp only [Act.put, List.setIfInBounds_toArray, List.set_cons_zero, List.set_cons_succ]
              refine' wpAnyL_take (i := 1) (oi := { dst := some 138, op := Op.load 23 (Operand.tmp 137), type := 23, pos := "law04.go:128", after := #[{ on := 0, ground := Ground.data }], guard := none }) (v := _) rfl (by kernel_rfl) (by kernel_rfl) (by kernel_rfl) (by kernel_rfl) (fun _ _ _ h => h) k_wd (by rfl) ?hyv ?onw
              case hyv =>
                intro wz hSw
                obtain ⟨z1, z2⟩ := hSw
                go_simp
                try rfl
              case onw =>
                try simp only [Act.put, List.setIfInBounds_toArray, List.set_cons_zero, List.set_cons_succ]
                refine' wpAnyL_take (i := 2) (oi := { dst := some 139, op := Op.move (Operand.tmp 13), type := 24, pos := "law04.go:128", after := #[], guard := none }) (v := _) rfl (by kernel_rfl) (by kernel_rfl) (by kernel_rfl) (by kernel_rfl) (fun _ _ _ h => h) k_wd (by rfl) ?hyv ?onw
                case hyv =>
                  intro wz hSw
                  obtain ⟨z1, z2⟩ := hSw
                  go_simp
                  try rfl
                case onw =>
                  try simp only [Act.put, List.setIfInBounds_toArray, List.set_cons_zero, List.set_cons_succ]
                  refine' wpAnyL_take (i := 3) (oi := { dst := some 140, op := Op.move (Operand.tmp 19), type := 3, pos := "law04.go:128", after := #[], guard := none }) (v := _) rfl (by kernel_rfl) (by kernel_rfl) (by kernel_rfl) (by kernel_rfl) (fun _ _ _ h => h) k_wd (by rfl) ?hyv ?onw
                  case hyv =>
                    intro wz hSw
                    obtain ⟨z1, z2⟩ := hSw
                    go_simp
                    try rfl
                  case onw =>
                    try simp only [Act.put, List.setIfInBounds_toArray, List.set_cons_zero, List.set_cons_succ]
                    refine' wpAnyL_take (i := 4) (oi := { dst := some 141, op := Op.move (Operand.tmp 21), type := 3, pos := "law04.go:128", after := #[], guard := none }) (v := _) rfl (by kernel_rfl) (by kernel_rfl) (by kernel_rfl) (by kernel_rfl) (fun _ _ _ h => h) k_wd (by rfl) ?hyv ?onw
                    case hyv =>
                      intro wz hSw
                      obtain ⟨z1, z2⟩ := hSw
                      go_simp
                      try rfl
                    case onw =>
                      try simp only [Act.put, List.setIfInBounds_toArray, List.set_cons_zero, List.set_cons_succ]
                      refine' wpAnyL_take (i := 5) (oi := { dst := some 142, op := Op.move (Operand.tmp 14), type := 26, pos := "law04.go:128", after := #[], guard := none }) (v := _) rfl (by kernel_rfl) (by kernel_rfl) (by kernel_rfl) (by kernel_rfl) (fun _ _ _ h => h) k_wd (by rfl) ?hyv ?onw
                      case hyv =>
                        intro wz hSw
                        obtain ⟨z1, z2⟩ := hSw
                        go_simp
                        try rfl
                      case onw =>
                        try simp only [Act.put, List.setIfInBounds_toArray, List.set_cons_zero, List.set_cons_succ]
                        refine' wpAnyL_take (i := 6) (oi := { dst := some 143, op := Op.indexAddr 26 (Operand.tmp 142) (Operand.const (Value.int IntKind.i64 2)), type := 0, pos := "law04.go:128", after := #[{ on := 5, ground := Ground.data }], guard := none }) (v := _) rfl (by kernel_rfl) (by kernel_rfl) (by kernel_rfl) (by kernel_rfl) (fun _ _ _ h => h) k_wd (by rfl) ?hyv ?onw
                        case hyv =>
                          intro wz hSw
                          obtain ⟨z1, z2⟩ := hSw
                          go_simp
                          try rfl
                        case onw =>
                          try simp only [Act.put, List.setIfInBounds_toArray, List.set_cons_zero, List.set_cons_succ]
                          refine' wpAnyL_take (i := 7) (oi := { dst := some 144, op := Op.load 3 (Operand.tmp 143), type := 3, pos := "law04.go:128", after := #[{ on := 6, ground := Ground.data }], guard := none }) (v := _) rfl (by kernel_rfl) (by kernel_rfl) (by kernel_rfl) (by kernel_rfl) (fun _ _ _ h => h) k_wd (by rfl) ?hyv ?onw
                          case hyv =>
                            intro wz hSw
                            obtain ⟨z1, z2⟩ := hSw
                            go_simp
                            try rfl
                          case onw =>
                            try simp only [Act.put, List.setIfInBounds_toArray, List.set_cons_zero, List.set_cons_succ]
                            have HT0d := hide (HT0.out.keep b14.size (fun i _ hl => b14.block i hl))
                            have NMd := hide (NM.out.keep b14.size (fun i _ hl => b14.block i hl))
                            refine wpAnyL_two (i := 8) (j := 13) (oi := { dst := some 145, op := Op.buildSlice 26 3 #[(0, Operand.tmp 140), (1, Operand.tmp 141), (2, Operand.tmp 144)], type := 26, pos := "law04.go:128", after := #[{ on := 3, ground := Ground.data }, { on := 4, ground := Ground.data }, { on := 7, ground := Ground.data }], guard := none }) (oj := { dst := some 24, op := Op.alloc 30, type := 0, pos := "law04.go:128", after := #[], guard := none }) rfl rfl (by kernel_rfl) (by rfl) (by rfl) (fun K hK => ?_) (fun K hK => ?_)
                            · skip
                              go_simp
                              obtain ⟨wa, hY⟩ : ∃ wa, wa = wd.alloc (.cells #[.int .i64 y, .int .i64 z, .int .i64 n2] 3 (0, 0)) := ⟨_, rfl⟩
                              rw [← hY]
                              have bt : Below wd.heap.size wd wa := by rw [hY]; exact (Below.refl _ _).alloc (Nat.le_refl _) _
                              have KI : wa.heap[wd.heap.size]? = some (.cells #[.int .i64 y, .int .i64 z, .int .i64 n2] 3 (0, 0)) := by rw [hY]; exact heap_new _ _
                              clear hY
                              have B_wa := B_wd.trans (bt.mono B_wd.size)
                              have k_wa := And.intro ((B_wa.cell (p := ⟨w1.heap.size, 0, none⟩) yA14).trans k0) ((B_wa.cell (p := ⟨w5.heap.size + 1, 2, none⟩) yI14).trans k2)
                              refine hK.out _ _ (fun _ => k_wa) ?_
                              clear hK K bt
                              try simp only [Act.put, List.setIfInBounds_toArray, List.set_cons_zero, List.set_cons_succ]
                              refine wpAnyL_two (i := 9) (j := 13) (oi := { dst := some 146, op := Op.call { callee := Callee.value (Operand.func 12), args := #[Operand.tmp 138, Operand.tmp 139, Operand.tmp 145], argTypes := #[23, 24, 26] }, type := 34, pos := "law04.go:128", after := #[{ on := 1, ground := Ground.data }, { on := 2, ground := Ground.data }, { on := 8, ground := Ground.data }], guard := none }) (oj := { dst := some 24, op := Op.alloc 30, type := 0, pos := "law04.go:128", after := #[], guard := none }) rfl rfl (by kernel_rfl) (by rfl) (by rfl) (fun K hK => ?_) (fun K hK => ?_)
                              · skip
                                go_simp
                                refine (value_any (HT0d.out.keep B_wa.size (fun i _ hl => B_wa.block i hl)) (NMd.out.keep B_wa.size (fun i _ hl => B_wa.block i hl)) (blk_ints (L := [y, z, n2]) KI (ints3 _ _ _)) (fun t h => st_size (HS0.out t h)) names3_size (by simp)).mono ?_
                                rintro e wb ⟨u, c, eu, rfl, hp, bt⟩
                                obtain ⟨rfl, hu⟩ := val3g (fun t h => (HS0.out t h).g) (by omega) HSY.out HSZ.out (small_04 HR2.out) hp
                                have HU := hide hu
                                clear hp hu
                                have B_wb := B_wa.trans (bt.mono B_wa.size)
                                have k_wb := And.intro ((B_wb.cell (p := ⟨w1.heap.size, 0, none⟩) yA14).trans k0) ((B_wb.cell (p := ⟨w5.heap.size + 1, 2, none⟩) yI14).trans k2)
                                refine hK.out _ _ (fun _ => k_wb) ?_
                                clear hK K bt
                                try simp only [Act.put, List.setIfInBounds_toArray, List.set_cons_zero, List.set_cons_succ]
                                refine' wpAnyL_take (i := 10) (oi := { dst := some 136, op := Op.move (Operand.tmp 146), type := 34, pos := "law04.go:128", after := #[{ on := 9, ground := Ground.data }], guard := none }) (v := _) rfl (by kernel_rfl) (by kernel_rfl) (by kernel_rfl) (by kernel_rfl) (fun _ _ _ h => h) k_wb (by rfl) ?hyv ?onw
                                case hyv =>
                                  intro wz hSw
                                  obtain ⟨z1, z2⟩ := hSw
                                  go_simp
                                  try rfl
                                case onw =>
                                  try simp only [Act.put, List.setIfInBounds_toArray, List.set_cons_zero, List.set_cons_succ]
                                  refine' wpAnyL_take (i := 11) (oi := { dst := some 147, op := Op.extract (Operand.tmp 136) 0, type := 3, pos := "law04.go:128", after := #[{ on := 10, ground := Ground.data }], guard := none }) (v := _) rfl (by kernel_rfl) (by kernel_rfl) (by kernel_rfl) (by kernel_rfl) (fun _ _ _ h => h) k_wb (by rfl) ?hyv ?onw
                                  case hyv =>
                                    intro wz hSw
                                    obtain ⟨z1, z2⟩ := hSw
                                    go_simp
                                    try rfl
                                  case onw =>
                                    try simp only [Act.put, List.setIfInBounds_toArray, List.set_cons_zero, List.set_cons_succ]
                                    refine' wpAnyL_take (i := 12) (oi := { dst := some 148, op := Op.extract (Operand.tmp 136) 1, type := 30, pos := "law04.go:128", after := #[{ on := 10, ground := Ground.data }, { on := 14, ground := Ground.gcOnly Departure.lateStores }], guard := none }) (v := _) rfl (by kernel_rfl) (by kernel_rfl) (by kernel_rfl) (by kernel_rfl) (fun _ _ _ h => h) k_wb (by rfl) ?hyv ?onw
                                    case hyv =>
                                      intro wz hSw
                                      obtain ⟨z1, z2⟩ := hSw
                                      go_simp
                                      try rfl
                                    case onw =>
                                      try simp only [Act.put, List.setIfInBounds_toArray, List.set_cons_zero, List.set_cons_succ]
                                      refine wpAnyL_one (i := 13) (o := { dst := some 24, op := Op.alloc 30, type := 0, pos := "law04.go:128", after := #[], guard := none }) rfl (by kernel_rfl) (by rfl) (fun K hK => ?_)
                                      go_simp
                                      obtain ⟨we, hY⟩ : ∃ we, we = wb.alloc (.cells #[.int .i64 0, .int .i64 0] 30 (0, 0)) := ⟨_, rfl⟩
                                      rw [← hY]
                                      have bt : Below wb.heap.size wb we := by rw [hY]; exact (Below.refl _ _).alloc (Nat.le_refl _) _
                                      have KF : we.heap[wb.heap.size]? = some (.cells #[.int .i64 0, .int .i64 0] 30 (0, 0)) := by rw [hY]; exact heap_new _ _
                                      clear hY
                                      have B_we := B_wb.trans (bt.mono B_wb.size)
                                      have k_we := And.intro ((B_we.cell (p := ⟨w1.heap.size, 0, none⟩) yA14).trans k0) ((B_we.cell (p := ⟨w5.heap.size + 1, 2, none⟩) yI14).trans k2)
                                      refine hK.out _ _ (fun _ => k_we) ?_
                                      clear hK K bt
                                      try simp only [Act.put, List.setIfInBounds_toArray, List.set_cons_zero, List.set_cons_succ]
                                      have hbf : w14.heap.size ≤ wb.heap.size := B_wb.size
                                      refine' wpAnyL_take (i := 14) (oi := { dst := some 23, op := Op.assign (Operand.tmp 147), type := 3, pos := "law04.go:128", after := #[{ on := 11, ground := Ground.data }, { on := 9, ground := Ground.chain }, { on := 0, ground := Ground.phase }, { on := 1, ground := Ground.phase }, { on := 2, ground := Ground.phase }, { on := 3, ground := Ground.phase }, { on := 4, ground := Ground.phase }, { on := 5, ground := Ground.phase }, { on := 6, ground := Ground.phase }, { on := 7, ground := Ground.phase }, { on := 8, ground := Ground.phase }, { on := 9, ground := Ground.phase }, { on := 10, ground := Ground.phase }, { on := 11, ground := Ground.phase }, { on := 12, ground := Ground.textOnly Departure.lateStores }, { on := 13, ground := Ground.phase }], guard := none }) (v := _) rfl (by kernel_rfl) (by kernel_rfl) (by kernel_rfl) (by kernel_rfl) (fun _ _ _ h => h) k_we (by rfl) ?hyv ?onw
                                      case hyv =>
                                        intro wz hSw
                                        obtain ⟨z1, z2⟩ := hSw
                                        go_simp
                                        try rfl
                                      case onw =>
                                        try simp only [Act.put, List.setIfInBounds_toArray, List.set_cons_zero, List.set_cons_succ]
                                        have ff := fun o => free_of KF o
                                        have c0 := cell_of KF 0
                                        have K1 := set_in KF 0 (.int .i64 0)
                                        simp only [List.setIfInBounds_toArray, List.set_cons_zero, List.set_cons_succ] at K1
                                        have c1 := cell_of K1 1
                                        have fg := fun o => free_of K1 o
                                        simp at c0 c1
                                        refine wpAnyL_one (i := 15) (o := { dst := none, op := Op.store 30 (Operand.tmp 24) (Operand.tmp 148), type := 0, pos := "law04.go:128", after := #[{ on := 13, ground := Ground.data }, { on := 12, ground := Ground.data }, { on := 14, ground := Ground.chain }, { on := 0, ground := Ground.phase }, { on := 1, ground := Ground.phase }, { on := 2, ground := Ground.phase }, { on := 3, ground := Ground.phase }, { on := 4, ground := Ground.phase }, { on := 5, ground := Ground.phase }, { on := 6, ground := Ground.phase }, { on := 7, ground := Ground.phase }, { on := 8, ground := Ground.phase }, { on := 9, ground := Ground.phase }, { on := 10, ground := Ground.phase }, { on := 11, ground := Ground.phase }, { on := 12, ground := Ground.phase }, { on := 13, ground := Ground.phase }, { on := 14, ground := Ground.phase }], guard := none }) rfl (by kernel_rfl) (by rfl) (fun K hK => ?_)
                                        go_simp
                                        refine hK.out _ _ (fun h => by cases h) ?_
                                        clear hK K
                                        try simp only [Act.put, List.setIfInBounds_toArray, List.set_cons_zero, List.set_cons_succ]
                                        refine wpAnyL_done (by kernel_rfl) ?_ _
                                        have K2 := set_in K1 1 (.int .i64 eu)
                                        simp only [List.setIfInBounds_toArray, List.set_cons_zero, List.set_cons_succ] at K2
                                        have HK2 := hide K2
                                        have B2x := hide ((B_we.setCell (p := ⟨wb.heap.size, 0, none⟩) hbf (.int .i64 0)).setCell (p := ⟨wb.heap.size, 1, none⟩) hbf (.int .i64 eu))
                                        clear K1 K2 ff KF
                                        go_wp2_with fail
                                        go_meet
                                        case rel => exact ⟨u, eu, wb.heap.size, rfl, rfl, HU, HK2.out, B2x.out⟩
                              · skip
                                go_simp
                                obtain ⟨wb, hY⟩ : ∃ wb, wb = wa.alloc (.cells #[.int .i64 0, .int .i64 0] 30 (0, 0)) := ⟨_, rfl⟩
                                rw [← hY]
                                have bt : Below wa.heap.size wa wb := by rw [hY]; exact (Below.refl _ _).alloc (Nat.le_refl _) _
                                have KF : wb.heap[wa.heap.size]? = some (.cells #[.int .i64 0, .int .i64 0] 30 (0, 0)) := by rw [hY]; exact heap_new _ _
                                clear hY
                                have B_wb := B_wa.trans (bt.mono B_wa.size)
                                have KI' := (bt.block _ (lt_of KI)).trans KI
                                clear KI
                                have KI := KI'
                                clear KI'
                                have k_wb := And.intro ((B_wb.cell (p := ⟨w1.heap.size, 0, none⟩) yA14).trans k0) ((B_wb.cell (p := ⟨w5.heap.size + 1, 2, none⟩) yI14).trans k2)
                                refine hK.out _ _ (fun _ => k_wb) ?_
                                clear hK K bt
                                try simp only [Act.put, List.setIfInBounds_toArray, List.set_cons_zero, List.set_cons_succ]
                                refine wpAnyL_one (i := 9) (o := { dst := some 146, op := Op.call { callee := Callee.value (Operand.func 12), args := #[Operand.tmp 138, Operand.tmp 139, Operand.tmp 145], argTypes := #[23, 24, 26] }, type := 34, pos := "law04.go:128", after := #[{ on := 1, ground := Ground.data }, { on := 2, ground := Ground.data }, { on := 8, ground := Ground.data }], guard := none }) rfl (by kernel_rfl) (by rfl) (fun K hK => ?_)
                                go_simp
                                refine (value_any (HT0d.out.keep B_wb.size (fun i _ hl => B_wb.block i hl)) (NMd.out.keep B_wb.size (fun i _ hl => B_wb.block i hl)) (blk_ints (L := [y, z, n2]) KI (ints3 _ _ _)) (fun t h => st_size (HS0.out t h)) names3_size (by simp)).mono ?_
                                rintro e we ⟨u, c, eu, rfl, hp, bt⟩
                                obtain ⟨rfl, hu⟩ := val3g (fun t h => (HS0.out t h).g) (by omega) HSY.out HSZ.out (small_04 HR2.out) hp
                                have HU := hide hu
                                clear hp hu
                                have B_we := B_wb.trans (bt.mono B_wb.size)
                                have KF' := (bt.block _ (lt_of KF)).trans KF
                                clear KF
                                have KF := KF'
                                clear KF'
                                have k_we := And.intro ((B_we.cell (p := ⟨w1.heap.size, 0, none⟩) yA14).trans k0) ((B_we.cell (p := ⟨w5.heap.size + 1, 2, none⟩) yI14).trans k2)
                                refine hK.out _ _ (fun _ => k_we) ?_
                                clear hK K bt
                                try simp only [Act.put, List.setIfInBounds_toArray, List.set_cons_zero, List.set_cons_succ]
                                refine' wpAnyL_take (i := 10) (oi := { dst := some 136, op := Op.move (Operand.tmp 146), type := 34, pos := "law04.go:128", after := #[{ on := 9, ground := Ground.data }], guard := none }) (v := _) rfl (by kernel_rfl) (by kernel_rfl) (by kernel_rfl) (by kernel_rfl) (fun _ _ _ h => h) k_we (by rfl) ?hyv ?onw
                                case hyv =>
                                  intro wz hSw
                                  obtain ⟨z1, z2⟩ := hSw
                                  go_simp
                                  try rfl
                                case onw =>
                                  try simp only [Act.put, List.setIfInBounds_toArray, List.set_cons_zero, List.set_cons_succ]
                                  refine' wpAnyL_take (i := 11) (oi := { dst := some 147, op := Op.extract (Operand.tmp 136) 0, type := 3, pos := "law04.go:128", after := #[{ on := 10, ground := Ground.data }], guard := none }) (v := _) rfl (by kernel_rfl) (by kernel_rfl) (by kernel_rfl) (by kernel_rfl) (fun _ _ _ h => h) k_we (by rfl) ?hyv ?onw
                                  case hyv =>
                                    intro wz hSw
                                    obtain ⟨z1, z2⟩ := hSw
                                    go_simp
                                    try rfl
                                  case onw =>
                                    try simp only [Act.put, List.setIfInBounds_toArray, List.set_cons_zero, List.set_cons_succ]
                                    refine' wpAnyL_take (i := 12) (oi := { dst := some 148, op := Op.extract (Operand.tmp 136) 1, type := 30, pos := "law04.go:128", after := #[{ on := 10, ground := Ground.data }, { on := 14, ground := Ground.gcOnly Departure.lateStores }], guard := none }) (v := _) rfl (by kernel_rfl) (by kernel_rfl) (by kernel_rfl) (by kernel_rfl) (fun _ _ _ h => h) k_we (by rfl) ?hyv ?onw
                                    case hyv =>
                                      intro wz hSw
                                      obtain ⟨z1, z2⟩ := hSw
                                      go_simp
                                      try rfl
                                    case onw =>
                                      try simp only [Act.put, List.setIfInBounds_toArray, List.set_cons_zero, List.set_cons_succ]
                                      have hbf : w14.heap.size ≤ wa.heap.size := B_wa.size
                                      refine' wpAnyL_take (i := 14) (oi := { dst := some 23, op := Op.assign (Operand.tmp 147), type := 3, pos := "law04.go:128", after := #[{ on := 11, ground := Ground.data }, { on := 9, ground := Ground.chain }, { on := 0, ground := Ground.phase }, { on := 1, ground := Ground.phase }, { on := 2, ground := Ground.phase }, { on := 3, ground := Ground.phase }, { on := 4, ground := Ground.phase }, { on := 5, ground := Ground.phase }, { on := 6, ground := Ground.phase }, { on := 7, ground := Ground.phase }, { on := 8, ground := Ground.phase }, { on := 9, ground := Ground.phase }, { on := 10, ground := Ground.phase }, { on := 11, ground := Ground.phase }, { on := 12, ground := Ground.textOnly Departure.lateStores }, { on := 13, ground := Ground.phase }], guard := none }) (v := _) rfl (by kernel_rfl) (by kernel_rfl) (by kernel_rfl) (by kernel_rfl) (fun _ _ _ h => h) k_we (by rfl) ?hyv ?onw
                                      case hyv =>
                                        intro wz hSw
                                        obtain ⟨z1, z2⟩ := hSw
                                        go_simp
                                        try rfl
                                      case onw =>
                                        try simp only [Act.put, List.setIfInBounds_toArray, List.set_cons_zero, List.set_cons_succ]
                                        have ff := fun o => free_of KF o
                                        have c0 := cell_of KF 0
                                        have K1 := set_in KF 0 (.int .i64 0)
                                        simp only [List.setIfInBounds_toArray, List.set_cons_zero, List.set_cons_succ] at K1
                                        have c1 := cell_of K1 1
                                        have fg := fun o => free_of K1 o
                                        simp at c0 c1
                                        refine wpAnyL_one (i := 15) (o := { dst := none, op := Op.store 30 (Operand.tmp 24) (Operand.tmp 148), type := 0, pos := "law04.go:128", after := #[{ on := 13, ground := Ground.data }, { on := 12, ground := Ground.data }, { on := 14, ground := Ground.chain }, { on := 0, ground := Ground.phase }, { on := 1, ground := Ground.phase }, { on := 2, ground := Ground.phase }, { on := 3, ground := Ground.phase }, { on := 4, ground := Ground.phase }, { on := 5, ground := Ground.phase }, { on := 6, ground := Ground.phase }, { on := 7, ground := Ground.phase }, { on := 8, ground := Ground.phase }, { on := 9, ground := Ground.phase }, { on := 10, ground := Ground.phase }, { on := 11, ground := Ground.phase }, { on := 12, ground := Ground.phase }, { on := 13, ground := Ground.phase }, { on := 14, ground := Ground.phase }], guard := none }) rfl (by kernel_rfl) (by rfl) (fun K hK => ?_)
                                        go_simp
                                        refine hK.out _ _ (fun h => by cases h) ?_
                                        clear hK K
                                        try simp only [Act.put, List.setIfInBounds_toArray, List.set_cons_zero, List.set_cons_succ]
                                        refine wpAnyL_done (by kernel_rfl) ?_ _
                                        have K2 := set_in K1 1 (.int .i64 eu)
                                        simp only [List.setIfInBounds_toArray, List.set_cons_zero, List.set_cons_succ] at K2
                                        have HK2 := hide K2
                                        have B2x := hide ((B_we.setCell (p := ⟨wa.heap.size, 0, none⟩) hbf (.int .i64 0)).setCell (p := ⟨wa.heap.size, 1, none⟩) hbf (.int .i64 eu))
                                        clear K1 K2 ff KF
                                        go_wp2_with fail
                                        go_meet
                                        case rel => exact ⟨u, eu, wa.heap.size, rfl, rfl, HU, HK2.out, B2x.out⟩
                            · skip
                              go_simp
                              obtain ⟨wa, hY⟩ : ∃ wa, wa = wd.alloc (.cells #[.int .i64 0, .int .i64 0] 30 (0, 0)) := ⟨_, rfl⟩
                              rw [← hY]
                              have bt : Below wd.heap.size wd wa := by rw [hY]; exact (Below.refl _ _).alloc (Nat.le_refl _) _
                              have KF : wa.heap[wd.heap.size]? = some (.cells #[.int .i64 0, .int .i64 0] 30 (0, 0)) := by rw [hY]; exact heap_new _ _
                              clear hY
                              have B_wa := B_wd.trans (bt.mono B_wd.size)
                              have k_wa := And.intro ((B_wa.cell (p := ⟨w1.heap.size, 0, none⟩) yA14).trans k0) ((B_wa.cell (p := ⟨w5.heap.size + 1, 2, none⟩) yI14).trans k2)
                              refine hK.out _ _ (fun _ => k_wa) ?_
                              clear hK K bt
                              try simp only [Act.put, List.setIfInBounds_toArray, List.set_cons_zero, List.set_cons_succ]
                              refine wpAnyL_one (i := 8) (o := { dst := some 145, op := Op.buildSlice 26 3 #[(0, Operand.tmp 140), (1, Operand.tmp 141), (2, Operand.tmp 144)], type := 26, pos := "law04.go:128", after := #[{ on := 3, ground := Ground.data }, { on := 4, ground := Ground.data }, { on := 7, ground := Ground.data }], guard := none }) rfl (by kernel_rfl) (by rfl) (fun K hK => ?_)
                              go_simp
                              obtain ⟨wb, hY⟩ : ∃ wb, wb = wa.alloc (.cells #[.int .i64 y, .int .i64 z, .int .i64 n2] 3 (0, 0)) := ⟨_, rfl⟩
                              rw [← hY]
                              have bt : Below wa.heap.size wa wb := by rw [hY]; exact (Below.refl _ _).alloc (Nat.le_refl _) _
                              have KI : wb.heap[wa.heap.size]? = some (.cells #[.int .i64 y, .int .i64 z, .int .i64 n2] 3 (0, 0)) := by rw [hY]; exact heap_new _ _
                              clear hY
                              have B_wb := B_wa.trans (bt.mono B_wa.size)
                              have KF' := (bt.block _ (lt_of KF)).trans KF
                              clear KF
                              have KF := KF'
                              clear KF'
                              have k_wb := And.intro ((B_wb.cell (p := ⟨w1.heap.size, 0, none⟩) yA14).trans k0) ((B_wb.cell (p := ⟨w5.heap.size + 1, 2, none⟩) yI14).trans k2)
                              refine hK.out _ _ (fun _ => k_wb) ?_
                              clear hK K bt
                              try simp only [Act.put, List.setIfInBounds_toArray, List.set_cons_zero, List.set_cons_succ]
                              refine wpAnyL_one (i := 9) (o := { dst := some 146, op := Op.call { callee := Callee.value (Operand.func 12), args := #[Operand.tmp 138, Operand.tmp 139, Operand.tmp 145], argTypes := #[23, 24, 26] }, type := 34, pos := "law04.go:128", after := #[{ on := 1, ground := Ground.data }, { on := 2, ground := Ground.data }, { on := 8, ground := Ground.data }], guard := none }) rfl (by kernel_rfl) (by rfl) (fun K hK => ?_)
                              go_simp
                              refine (value_any (HT0d.out.keep B_wb.size (fun i _ hl => B_wb.block i hl)) (NMd.out.keep B_wb.size (fun i _ hl => B_wb.block i hl)) (blk_ints (L := [y, z, n2]) KI (ints3 _ _ _)) (fun t h => st_size (HS0.out t h)) names3_size (by simp)).mono ?_
                              rintro e we ⟨u, c, eu, rfl, hp, bt⟩
                              obtain ⟨rfl, hu⟩ := val3g (fun t h => (HS0.out t h).g) (by omega) HSY.out HSZ.out (small_04 HR2.out) hp
                              have HU := hide hu
                              clear hp hu
                              have B_we := B_wb.trans (bt.mono B_wb.size)
                              have KF' := (bt.block _ (lt_of KF)).trans KF
                              clear KF
                              have KF := KF'
                              clear KF'
                              have k_we := And.intro ((B_we.cell (p := ⟨w1.heap.size, 0, none⟩) yA14).trans k0) ((B_we.cell (p := ⟨w5.heap.size + 1, 2, none⟩) yI14).trans k2)
                              refine hK.out _ _ (fun _ => k_we) ?_
                              clear hK K bt
                              try simp only [Act.put, List.setIfInBounds_toArray, List.set_cons_zero, List.set_cons_succ]
                              refine' wpAnyL_take (i := 10) (oi := { dst := some 136, op := Op.move (Operand.tmp 146), type := 34, pos := "law04.go:128", after := #[{ on := 9, ground := Ground.data }], guard := none }) (v := _) rfl (by kernel_rfl) (by kernel_rfl) (by kernel_rfl) (by kernel_rfl) (fun _ _ _ h => h) k_we (by rfl) ?hyv ?onw
                              case hyv =>
                                intro wz hSw
                                obtain ⟨z1, z2⟩ := hSw
                                go_simp
                                try rfl
                              case onw =>
                                try simp only [Act.put, List.setIfInBounds_toArray, List.set_cons_zero, List.set_cons_succ]
                                refine' wpAnyL_take (i := 11) (oi := { dst := some 147, op := Op.extract (Operand.tmp 136) 0, type := 3, pos := "law04.go:128", after := #[{ on := 10, ground := Ground.data }], guard := none }) (v := _) rfl (by kernel_rfl) (by kernel_rfl) (by kernel_rfl) (by kernel_rfl) (fun _ _ _ h => h) k_we (by rfl) ?hyv ?onw
                                case hyv =>
                                  intro wz hSw
                                  obtain ⟨z1, z2⟩ := hSw
                                  go_simp
                                  try rfl
                                case onw =>
                                  try simp only [Act.put, List.setIfInBounds_toArray, List.set_cons_zero, List.set_cons_succ]
                                  refine' wpAnyL_take (i := 12) (oi := { dst := some 148, op := Op.extract (Operand.tmp 136) 1, type := 30, pos := "law04.go:128", after := #[{ on := 10, ground := Ground.data }, { on := 14, ground := Ground.gcOnly Departure.lateStores }], guard := none }) (v := _) rfl (by kernel_rfl) (by kernel_rfl) (by kernel_rfl) (by kernel_rfl) (fun _ _ _ h => h) k_we (by rfl) ?hyv ?onw
                                  case hyv =>
                                    intro wz hSw
                                    obtain ⟨z1, z2⟩ := hSw
                                    go_simp
                                    try rfl
                                  case onw =>
                                    try simp only [Act.put, List.setIfInBounds_toArray, List.set_cons_zero, List.set_cons_succ]
                                    have hbf : w14.heap.size ≤ wd.heap.size := B_wd.size
                                    refine' wpAnyL_take (i := 14) (oi := { dst := some 23, op := Op.assign (Operand.tmp 147), type := 3, pos := "law04.go:128", after := #[{ on := 11, ground := Ground.data }, { on := 9, ground := Ground.chain }, { on := 0, ground := Ground.phase }, { on := 1, ground := Ground.phase }, { on := 2, ground := Ground.phase }, { on := 3, ground := Ground.phase }, { on := 4, ground := Ground.phase }, { on := 5, ground := Ground.phase }, { on := 6, ground := Ground.phase }, { on := 7, ground := Ground.phase }, { on := 8, ground := Ground.phase }, { on := 9, ground := Ground.phase }, { on := 10, ground := Ground.phase }, { on := 11, ground := Ground.phase }, { on := 12, ground := Ground.textOnly Departure.lateStores }, { on := 13, ground := Ground.phase }], guard := none }) (v := _) rfl (by kernel_rfl) (by kernel_rfl) (by kernel_rfl) (by kernel_rfl) (fun _ _ _ h => h) k_we (by rfl) ?hyv ?onw
                                    case hyv =>
                                      intro wz hSw
                                      obtain ⟨z1, z2⟩ := hSw
                                      go_simp
                                      try rfl
                                    case onw =>
                                      try simp only [Act.put, List.setIfInBounds_toArray, List.set_cons_zero, List.set_cons_succ]
                                      have ff := fun o => free_of KF o
                                      have c0 := cell_of KF 0
                                      have K1 := set_in KF 0 (.int .i64 0)
                                      simp only [List.setIfInBounds_toArray, List.set_cons_zero, List.set_cons_succ] at K1
                                      have c1 := cell_of K1 1
                                      have fg := fun o => free_of K1 o
                                      simp at c0 c1
                                      refine wpAnyL_one (i := 15) (o := { dst := none, op := Op.store 30 (Operand.tmp 24) (Operand.tmp 148), type := 0, pos := "law04.go:128", after := #[{ on := 13, ground := Ground.data }, { on := 12, ground := Ground.data }, { on := 14, ground := Ground.chain }, { on := 0, ground := Ground.phase }, { on := 1, ground := Ground.phase }, { on := 2, ground := Ground.phase }, { on := 3, ground := Ground.phase }, { on := 4, ground := Ground.phase }, { on := 5, ground := Ground.phase }, { on := 6, ground := Ground.phase }, { on := 7, ground := Ground.phase }, { on := 8, ground := Ground.phase }, { on := 9, ground := Ground.phase }, { on := 10, ground := Ground.phase }, { on := 11, ground := Ground.phase }, { on := 12, ground := Ground.phase }, { on := 13, ground := Ground.phase }, { on := 14, ground := Ground.phase }], guard := none }) rfl (by kernel_rfl) (by rfl) (fun K hK => ?_)
                                      go_simp
                                      refine hK.out _ _ (fun h => by cases h) ?_
                                      clear hK K
                                      try simp only [Act.put, List.setIfInBounds_toArray, List.set_cons_zero, List.set_cons_succ]
                                      refine wpAnyL_done (by kernel_rfl) ?_ _
                                      have K2 := set_in K1 1 (.int .i64 eu)
                                      simp only [List.setIfInBounds_toArray, List.set_cons_zero, List.set_cons_succ] at K2
                                      have HK2 := hide K2
                                      have B2x := hide ((B_we.setCell (p := ⟨wd.heap.size, 0, none⟩) hbf (.int .i64 0)).setCell (p := ⟨wd.heap.size, 1, none⟩) hbf (.int .i64 eu))
                                      clear K1 K2 ff KF
                                      go_wp2_with fail
                                      go_meet
                                      case rel => exact ⟨u, eu, wd.heap.size, rfl, rfl, HU, HK2.out, B2x.out⟩
          case rest =>
            obtain ⟨u, eu, bd, rfl, rfl, HU, KF, b15⟩ := hcut
            obtain ⟨w15, hw15⟩ : ∃ w15, w15 = wc := ⟨_, rfl⟩
            rw [← hw15] at KF b15 ⊢
            clear hw15 k0 k2
            have hxu : x = u := with_meets HWL.out HS0.out HVx.out HVy.out HVz.out HU.out
            subst hxu
            have d1 := cell_of ((b15.block _ yf1).trans F1.out) 0
            have d2 := cell_of ((b15.block _ yf2).trans F2.out) 0
            have d3 := cell_of ((b15.block _ yf3).trans F3.out) 0
            have d4 := cell_of ((b15.block _ yf4).trans F4.out) 0
            have d5 := cell_of KF 0
            simp at d1 d2 d3 d4 d5
            have BF := B7.trans ((b14.trans (b15.mono b14.size)).mono B7.size)
            have HBF := hide BF
            clear BF
            go_wp2
            go_ret
            exact ⟨rfl, HBF.out⟩
end Go.Proofs.Ytjpjedigajiomaa
