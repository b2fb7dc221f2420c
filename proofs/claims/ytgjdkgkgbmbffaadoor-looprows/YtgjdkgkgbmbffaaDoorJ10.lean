import Derived.Test.YtgjdkgkgbmbffaaDoorJ09
import Derived.Deep.Cut
import Derived.Deep.LoopGhost
import Derived.Ground.NamesProg
import Derived.IntWalk
import Derived.Laws.Cover1
import Derived.Laws.EntriesVeiled
import Derived.Laws.Externs
import Derived.Lib.Hide
import Derived.Lib.MakeNoZero
import Derived.Lib.SlBuf
import Derived.Maps.OwnSet
import Derived.Shelf.Bytes.SlSmallAll
import Derived.Shelf.Lay
import Derived.WalkKit
import Derived.WalkSpells
set_option linter.unusedVariables false
set_option linter.unusedSimpArgs false
set_option maxHeartbeats 64000000
set_option maxRecDepth 100000
namespace Go.Proofs.YtgjdkgkgbmbffaaDoor
open Go.RowKit Go.IntWalk
set_option linter.unusedVariables false
set_option linter.unusedSimpArgs false
set_option maxHeartbeats 16000000 in
theorem sameLongs_same {ok ok' : Nat → Prop} {w : World} {u v : Value} {l : List Int} (hu : HInts ok w u l) (hv : HInts ok' w v l) :
    Calls Tryd.prog 16 #[u, v] w fun e w' => e = .returned (.bool true) ∧ Below w.heap.size w w' := by
  obtain ⟨aU, cU, rfl, hu1, hu2, -⟩ := hu.at
  obtain ⟨aV, cV, rfl, hv1, hv2, -⟩ := hv.at
  unfold maxLen at hu2 hv2
  have HU := hide hu
  have HV := hide hv
  obtain ⟨n, hn⟩ : ∃ n, n = l.length := ⟨_, rfl⟩
  rw [← hn] at hu1 hv1 ⊢
  have HN := hide hn
  clear hu hv hn
  go_enter Tryd.func16, Tryd.ntmps16
  go_wp2_with fail
  go_loopg [5] n (fun k v wr => ∃ (i : Nat), i ≤ n ∧ k = n - i ∧ v = .int .i64 (i : Nat) ∧ Below w.heap.size w wr)
  case atStart => exact ⟨0, Nat.zero_le _, rfl, rfl, Below.refl _ _⟩
  case round =>
    obtain ⟨i, hi, rfl, rfl, hbr⟩ := hrel
    have zr := hbr.size
    by_cases hlt : i < n
    case neg =>
      have hin : i = n := by omega
      subst hin
      go_wp2
      go_ret
      exact ⟨rfl, hbr⟩
    case pos =>
      have hil : i < l.length := by have := HN.out; omega
      obtain ⟨ao, cp, e1, -, -, hat⟩ := (HU.out.under hbr).at
      injection e1 with q1 q2 q3
      obtain ⟨b1, o1, hb1, y1, x1⟩ := hat i hil
      rw [hb1] at q1
      subst q1
      obtain ⟨ao2, cp2, e2, -, -, hat2⟩ := (HV.out.under hbr).at
      injection e2 with z1 z2 z3
      obtain ⟨b2, o2, hb2, y2, x2⟩ := hat2 i hil
      rw [hb2] at z1
      subst z1
      generalize l[i] = y at x1 x2
      clear hat hat2 q2 q3 z2 z3 hb1 hb2 hil
      go_upto_region 6 with fail
      refine wp_region_late (fun w' => Below wr.heap.size wr w') (fun _ => false) (by kernel_rfl) ?_
      have hH0 : Below wr.heap.size wr wr.drew := (Below.refl _ _).drew
      generalize wr.drew = wd0 at hH0 ⊢
      refine' wpAnyL_take (i := 0) (oi := ⟨some 17, _, _, _, _, _⟩) (v := _) rfl (by kernel_rfl) (by kernel_rfl) (by kernel_rfl) (by kernel_rfl) (fun _ _ _ h => h) hH0 (by rfl) ?hyv ?onw
      case hyv =>
        intro wz hSw
        go_simp
        try rfl
      case onw =>
        try simp only [Act.put, List.setIfInBounds_toArray, List.set_cons_zero, List.set_cons_succ]
        refine' wpAnyL_take (i := 1) (oi := ⟨some 18, _, _, _, _, _⟩) (v := _) rfl (by kernel_rfl) (by kernel_rfl) (by kernel_rfl) (by kernel_rfl) (fun _ _ _ h => h) hH0 (by rfl) ?hyv ?onw
        case hyv =>
          intro wz hSw
          go_simp
          try rfl
        case onw =>
          try simp only [Act.put, List.setIfInBounds_toArray, List.set_cons_zero, List.set_cons_succ]
          refine' wpAnyL_take (i := 2) (oi := ⟨some 19, _, _, _, _, _⟩) (v := _) rfl (by kernel_rfl) (by kernel_rfl) (by kernel_rfl) (by kernel_rfl) (fun _ _ _ h => h) hH0 (by rfl) ?hyv ?onw
          case hyv =>
            intro wz hSw
            go_simp
            try rfl
          case onw =>
            try simp only [Act.put, List.setIfInBounds_toArray, List.set_cons_zero, List.set_cons_succ]
            refine' wpAnyL_take (i := 3) (oi := ⟨some 20, _, _, _, _, _⟩) (v := _) rfl (by kernel_rfl) (by kernel_rfl) (by kernel_rfl) (by kernel_rfl) (fun _ _ _ h => h) hH0 (by rfl) ?hyv ?onw
            case hyv =>
              intro wz hSw
              have zc0 := (hSw.cell (p := ⟨b1, o1 + i, none⟩) y1).trans x1
              have zc1 := (hSw.cell (p := ⟨b2, o2 + i, none⟩) y2).trans x2
              go_simp
              try rfl
            case onw =>
              try simp only [Act.put, List.setIfInBounds_toArray, List.set_cons_zero, List.set_cons_succ]
              refine' wpAnyL_take (i := 4) (oi := ⟨some 21, _, _, _, _, _⟩) (v := _) rfl (by kernel_rfl) (by kernel_rfl) (by kernel_rfl) (by kernel_rfl) (fun _ _ _ h => h) hH0 (by rfl) ?hyv ?onw
              case hyv =>
                intro wz hSw
                go_simp
                try rfl
              case onw =>
                try simp only [Act.put, List.setIfInBounds_toArray, List.set_cons_zero, List.set_cons_succ]
                refine' wpAnyL_take (i := 5) (oi := ⟨some 22, _, _, _, _, _⟩) (v := _) rfl (by kernel_rfl) (by kernel_rfl) (by kernel_rfl) (by kernel_rfl) (fun _ _ _ h => h) hH0 (by rfl) ?hyv ?onw
                case hyv =>
                  intro wz hSw
                  go_simp
                  try rfl
                case onw =>
                  try simp only [Act.put, List.setIfInBounds_toArray, List.set_cons_zero, List.set_cons_succ]
                  refine' wpAnyL_take (i := 6) (oi := ⟨some 23, _, _, _, _, _⟩) (v := _) rfl (by kernel_rfl) (by kernel_rfl) (by kernel_rfl) (by kernel_rfl) (fun _ _ _ h => h) hH0 (by rfl) ?hyv ?onw
                  case hyv =>
                    intro wz hSw
                    go_simp
                    try rfl
                  case onw =>
                    try simp only [Act.put, List.setIfInBounds_toArray, List.set_cons_zero, List.set_cons_succ]
                    refine' wpAnyL_take (i := 7) (oi := ⟨some 24, _, _, _, _, _⟩) (v := _) rfl (by kernel_rfl) (by kernel_rfl) (by kernel_rfl) (by kernel_rfl) (fun _ _ _ h => h) hH0 (by rfl) ?hyv ?onw
                    case hyv =>
                      intro wz hSw
                      have zc0 := (hSw.cell (p := ⟨b1, o1 + i, none⟩) y1).trans x1
                      have zc1 := (hSw.cell (p := ⟨b2, o2 + i, none⟩) y2).trans x2
                      go_simp
                      try rfl
                    case onw =>
                      try simp only [Act.put, List.setIfInBounds_toArray, List.set_cons_zero, List.set_cons_succ]
                      refine' wpAnyL_take (i := 8) (oi := ⟨some 25, _, _, _, _, _⟩) (v := _) rfl (by kernel_rfl) (by kernel_rfl) (by kernel_rfl) (by kernel_rfl) (fun _ _ _ h => h) hH0 (by rfl) ?hyv ?onw
                      case hyv =>
                        intro wz hSw
                        go_simp
                        try rfl
                      case onw =>
                        try simp only [Act.put, List.setIfInBounds_toArray, List.set_cons_zero, List.set_cons_succ]
                        refine wpAnyL_done (by kernel_rfl) ?_ _
                        clear x1 x2
                        have BE := hbr.trans (hH0.mono hbr.size)
                        go_wp2_with fail
                        go_roundg (n - (i + 1))
                        case measure => omega
                        case rel => exact ⟨i + 1, by omega, rfl, by go_num, BE⟩
end Go.Proofs.YtgjdkgkgbmbffaaDoor
namespace Go.Proofs.YtgjdkgkgbmbffaaDoor
open Go.RowKit Go.IntWalk
set_option linter.unusedVariables false
set_option linter.unusedSimpArgs false
namespace Sk
end Sk
theorem wpAnyL_skip {P : Program} {ops : Array Oper} {Q : Exit → Act → World → Prop} {md : Region.Mode} {S : World → Prop} {late : Nat → Bool} {i : Nat} {oi : Oper} {fuel : Nat} {listed : Array Bool} {a : Act} {w : World} (hi : ops[i]? = some oi)
    (hs : Region.noSelect ops = true) (hf : Region.free md ops listed i = true) (hr : (Region.ready md ops listed).contains i = true) (hl : waitFor md ops late listed i = true)
    (hQ : ∀ c a w, Q (.panic c) (a.put oi.dst undef) w → Q (.panic c) a w) (hS : S w) (hw : Region.wanted oi (yielded ops a.tmps) = false)
    (h : wpAnyL P md ops Q S late fuel (listed.setIfInBounds i true) (a.put oi.dst undef) w) : wpAnyL P md ops Q S late (fuel + 1) listed a w :=
  wpAnyL_first hi (Region.noSelect_spec hs) hQ fuel listed a w (Region.free_spec hi hf) (waitFor_spec hl) (by simpa using hr) (.inr ⟨hw, rfl⟩) hS h
end Go.Proofs.YtgjdkgkgbmbffaaDoor
namespace Go.Proofs.YtgjdkgkgbmbffaaDoor
open Go.RowKit Go.IntWalk
set_option linter.unusedVariables false
set_option linter.unusedSimpArgs false
theorem drewN_below {B : Nat} {w w' : World} (h : Below B w w') (n : Nat) : Below B w (w'.drewN n) := ⟨h.os, h.tape, h.output, h.size, h.block⟩
namespace Kd
/-- the operators: what each takes, makes, and how many -/
def opsT : List (Int × Int × Int) := [(0, 0, 0), (105, 105, 2), (105, 105, 2), (105, 105, 2), (105, 105, 2), (105, 105, 2), (105, 105, 2), (105, 105, 2), (105, 98, 2), (105, 98, 2), (98, 98, 2), (98, 98, 2), (98, 98, 2), (105, 105, 1), (98, 98, 1)]
def opN (k : Nat) : Int × Int × Int := opsT.getD k (0, 0, 0)
def opT (k : Int) : Int × Int × Int := if k < 0 ∨ 15 ≤ k then (0, 0, 0) else opN k.toNat
def folds (k : Int) : Bool := decide ((opT k).2.2 = 2) && decide ((opT k).1 = (opT k).2.1)
end Kd
/-- the table of operators, as the program's text lays it -/
def GlobK (w : World) : Prop := 0 < w.heap.size ∧ ∀ k, k < 15 → w.cell? ⟨0, k * 3, none⟩ = some (.int .u8 (Kd.opN k).1) ∧ w.cell? ⟨0, k * 3 + 1, none⟩ = some (.int .u8 (Kd.opN k).2.1) ∧ w.cell? ⟨0, k * 3 + 2, none⟩ = some (.int .i64 (Kd.opN k).2.2)
theorem GlobK.under {w w' : World} (h : GlobK w) (b : Below w.heap.size w w') : GlobK w' := by
  refine ⟨Nat.lt_of_lt_of_le h.1 b.size, fun k hk => ?_⟩
  obtain ⟨h0, h1, h2⟩ := h.2 k hk
  exact ⟨(b.cell (p := ⟨0, k * 3, none⟩) h.1).trans h0, (b.cell (p := ⟨0, k * 3 + 1, none⟩) h.1).trans h1, (b.cell (p := ⟨0, k * 3 + 2, none⟩) h.1).trans h2⟩
set_option maxHeartbeats 2000000 in
theorem op_any (k : Int) (w : World) (hG : GlobK w) :
    Calls Tryd.prog 52 #[.int .i64 k] w fun r w' => r = .returned (.tuple #[.int .u8 (Kd.opT k).1, .int .u8 (Kd.opT k).2.1, .int .i64 (Kd.opT k).2.2]) ∧ Below w.heap.size w w' := by
  unfold Kd.opT
  by_cases h1 : k < 0
  · rw [if_pos (.inl h1)]
    go_enter Tryd.func52, Tryd.ntmps52
    go_wp2
    exact bodyPost_ret (v := .tuple #[.int .u8 0, .int .u8 0, .int .i64 0]) (by simp [results, Tryd.results52, go_sem]) rfl ⟨rfl, Below.refl _ _⟩
  · by_cases h2 : 15 ≤ k
    · rw [if_pos (.inr h2)]
      have h3 : (15 : Int) ≤ k := h2
      go_enter Tryd.func52, Tryd.ntmps52
      go_wp2
      exact bodyPost_ret (v := .tuple #[.int .u8 0, .int .u8 0, .int .i64 0]) (by simp [results, Tryd.results52, go_sem]) rfl ⟨rfl, Below.refl _ _⟩
    · rw [if_neg (by omega)]
      obtain ⟨q, rfl⟩ : ∃ q : Nat, k = (q : Int) := ⟨k.toNat, by omega⟩
      have hq : q < 15 := by omega
      obtain ⟨c0, c1, c2⟩ := hG.2 q hq
      rw [Int.toNat_natCast]
      generalize Kd.opN q = oq at c0 c1 c2 ⊢
      obtain ⟨tk, mk, n⟩ := oq
      dsimp only at c0 c1 c2 ⊢
      have bA : Below w.heap.size w (w.alloc (.cells #[.int .u8 tk, .int .u8 mk, .int .i64 n] 93 (0, 0))) := (Below.refl _ _).alloc (Nat.le_refl _) _
      have kA := heap_new w (.cells #[.int .u8 tk, .int .u8 mk, .int .i64 n] 93 (0, 0))
      go_enter Tryd.func52, Tryd.ntmps52
      go_upto_region 4 with fail
      generalize w.alloc (.cells #[.int .u8 tk, .int .u8 mk, .int .i64 n] 93 (0, 0)) = w1 at bA kA ⊢
      have d0 := cell_of kA 0
      have d1 := cell_of kA 1
      have d2 := cell_of kA 2
      simp at d0 d1 d2
      clear c0 c1 c2 kA
      go_quiet (fail)
      go_wp2
      exact bodyPost_ret (v := .tuple #[.int .u8 tk, .int .u8 mk, .int .i64 n]) (by simp [results, Tryd.results52, go_sem]) rfl ⟨rfl, drewN_below bA _⟩
end Go.Proofs.YtgjdkgkgbmbffaaDoor
