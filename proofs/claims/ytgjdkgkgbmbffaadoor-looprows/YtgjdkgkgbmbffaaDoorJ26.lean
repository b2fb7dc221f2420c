import Derived.Test.YtgjdkgkgbmbffaaDoorJ23
import Derived.Test.YtgjdkgkgbmbffaaDoorJ20
import Derived.WalkKit
import Derived.WalkSpells
import Derived.IntWalk
import Derived.Deep.Cut
import Derived.Deep.LoopGhost
import Derived.Laws.Cover1
import Derived.Lib.Hide
set_option linter.unusedVariables false
set_option linter.unusedSimpArgs false
set_option maxHeartbeats 64000000
set_option maxRecDepth 100000
namespace Go.Proofs.YtgjdkgkgbmbffaaDoor
open Go.RowKit Go.IntWalk
set_option linter.unusedVariables false
set_option linter.unusedSimpArgs false
theorem HRow.under {α : Type} {T : Kind α} {ok : Nat → Prop} {w w' : World} {v : Value} {l : List α} (h : HRow T ok w v l) (b : Below w.heap.size w w') : HRow T ok w' v l := h.keep b.size fun i _ hl => b.block i hl
set_option maxHeartbeats 16000000 in
theorem sameRows19_same {ok ok' : Nat → Prop} {w : World} {u v : Value} {L : List (List Int)} (hu : HRow kLL ok w u L) (hv : HRow kLL ok' w v L) :
    Calls Tryd.prog 19 #[u, v] w fun e w' => e = .returned (.bool true) ∧ Below w.heap.size w w' := by
  obtain ⟨aU, cU, rfl, hu1, hu2, -⟩ := hu.llAt
  obtain ⟨aV, cV, rfl, hv1, hv2, -⟩ := hv.llAt
  unfold maxLen at hu2 hv2
  have HU := hide hu
  have HV := hide hv
  obtain ⟨n, hn⟩ : ∃ n, n = L.length := ⟨_, rfl⟩
  rw [← hn] at hu1 hv1 ⊢
  have HN := hide hn
  clear hu hv hn
  go_enter Tryd.func19, Tryd.ntmps19
  go_wp2_with fail
  go_loopg [5] n (fun k v wr => ∃ (i : Nat), i ≤ n ∧ k = n - i ∧ v = .int .i64 (i : Nat) ∧ Below w.heap.size w wr)
  case atStart => exact ⟨0, Nat.zero_le _, rfl, rfl, Below.refl _ _⟩
  case round =>
    obtain ⟨i, hi, rfl, rfl, hbr⟩ := hrel
    by_cases hlt : i < n
    case neg =>
      have hin : i = n := by omega
      subst hin
      go_wp2
      go_ret
      exact ⟨rfl, hbr⟩
    case pos =>
      have hil : i < L.length := by have := HN.out; omega
      obtain ⟨ao1, cp1, e1, -, -, hat1⟩ := (HU.out.under hbr).llAt
      injection e1 with q1 q2 q3
      obtain ⟨b1, o1, v1, hb1, y1, x1, hi1⟩ := hat1 i hil
      rw [hb1] at q1
      subst q1
      obtain ⟨ao2, cp2, e2, -, -, hat2⟩ := (HV.out.under hbr).llAt
      injection e2 with r1 r2 r3
      obtain ⟨b2, o2, v2, hb2, y2, x2, hi2⟩ := hat2 i hil
      rw [hb2] at r1
      subst r1
      have HC := hide (fun (W : World) (b : Below wr.heap.size wr W) => sameLongs_same (hi1.under b) (hi2.under b))
      clear hat1 hat2 q2 q3 r2 r3 hb1 hb2 hi1 hi2 hil
      go_upto_region 6 with fail
      refine wp_region_late (fun w' => Below wr.heap.size wr w') (fun _ => false) (by kernel_rfl) ?_
      have hH0 : Below wr.heap.size wr wr.drew := (Below.refl _ _).drew
      generalize wr.drew = wd0 at hH0 ⊢
      refine' wpAnyL_take (i := 0) (oi := ⟨some 17, _, _, _, _, _⟩) (v := _) rfl (by kernel_rfl) (by kernel_rfl) (by kernel_rfl) (by kernel_rfl) (fun _ _ _ h => h) hH0 (by rfl) ?hyv ?onw
      case hyv =>
        intro wz hSw
        go_simp
        try rfl
      case onw =>
        try simp only [Act.put, List.setIfInBounds_toArray, List.set_cons_zero, List.set_cons_succ]
        refine' wpAnyL_take (i := 1) (oi := ⟨some 18, _, _, _, _, _⟩) (v := _) rfl (by kernel_rfl) (by kernel_rfl) (by kernel_rfl) (by kernel_rfl) (fun _ _ _ h => h) hH0 (by rfl) ?hyv ?onw
        case hyv =>
          intro wz hSw
          go_simp
          try rfl
        case onw =>
          try simp only [Act.put, List.setIfInBounds_toArray, List.set_cons_zero, List.set_cons_succ]
          refine' wpAnyL_take (i := 2) (oi := ⟨some 19, _, _, _, _, _⟩) (v := _) rfl (by kernel_rfl) (by kernel_rfl) (by kernel_rfl) (by kernel_rfl) (fun _ _ _ h => h) hH0 (by rfl) ?hyv ?onw
          case hyv =>
            intro wz hSw
            go_simp
            try rfl
          case onw =>
            try simp only [Act.put, List.setIfInBounds_toArray, List.set_cons_zero, List.set_cons_succ]
            refine' wpAnyL_take (i := 3) (oi := ⟨some 20, _, _, _, _, _⟩) (v := _) rfl (by kernel_rfl) (by kernel_rfl) (by kernel_rfl) (by kernel_rfl) (fun _ _ _ h => h) hH0 (by rfl) ?hyv ?onw
            case hyv =>
              intro wz hSw
              have zc0 := (hSw.cell (p := ⟨b1, o1 + i, none⟩) y1).trans x1
              have zc1 := (hSw.cell (p := ⟨b2, o2 + i, none⟩) y2).trans x2
              go_simp
              try rfl
            case onw =>
              try simp only [Act.put, List.setIfInBounds_toArray, List.set_cons_zero, List.set_cons_succ]
              refine' wpAnyL_take (i := 4) (oi := ⟨some 21, _, _, _, _, _⟩) (v := _) rfl (by kernel_rfl) (by kernel_rfl) (by kernel_rfl) (by kernel_rfl) (fun _ _ _ h => h) hH0 (by rfl) ?hyv ?onw
              case hyv =>
                intro wz hSw
                go_simp
                try rfl
              case onw =>
                try simp only [Act.put, List.setIfInBounds_toArray, List.set_cons_zero, List.set_cons_succ]
                refine' wpAnyL_take (i := 5) (oi := ⟨some 22, _, _, _, _, _⟩) (v := _) rfl (by kernel_rfl) (by kernel_rfl) (by kernel_rfl) (by kernel_rfl) (fun _ _ _ h => h) hH0 (by rfl) ?hyv ?onw
                case hyv =>
                  intro wz hSw
                  go_simp
                  try rfl
                case onw =>
                  try simp only [Act.put, List.setIfInBounds_toArray, List.set_cons_zero, List.set_cons_succ]
                  refine' wpAnyL_take (i := 6) (oi := ⟨some 23, _, _, _, _, _⟩) (v := _) rfl (by kernel_rfl) (by kernel_rfl) (by kernel_rfl) (by kernel_rfl) (fun _ _ _ h => h) hH0 (by rfl) ?hyv ?onw
                  case hyv =>
                    intro wz hSw
                    go_simp
                    try rfl
                  case onw =>
                    try simp only [Act.put, List.setIfInBounds_toArray, List.set_cons_zero, List.set_cons_succ]
                    refine' wpAnyL_take (i := 7) (oi := ⟨some 24, _, _, _, _, _⟩) (v := _) rfl (by kernel_rfl) (by kernel_rfl) (by kernel_rfl) (by kernel_rfl) (fun _ _ _ h => h) hH0 (by rfl) ?hyv ?onw
                    case hyv =>
                      intro wz hSw
                      have zc0 := (hSw.cell (p := ⟨b1, o1 + i, none⟩) y1).trans x1
                      have zc1 := (hSw.cell (p := ⟨b2, o2 + i, none⟩) y2).trans x2
                      go_simp
                      try rfl
                    case onw =>
                      try simp only [Act.put, List.setIfInBounds_toArray, List.set_cons_zero, List.set_cons_succ]
                      refine wpAnyL_one (i := 8) (o := _) rfl (by kernel_rfl) (by rfl) (fun K hK => ?_)
                      go_simp
                      refine (HC.out wd0 hH0).mono ?_
                      rintro eq wd1 ⟨rfl, bq1⟩
                      have hH1 : Below wr.heap.size wr wd1 := hH0.trans (bq1.mono hH0.size)
                      refine hK.out _ _ (fun _ => hH1) ?_
                      clear hK K
                      try simp only [Act.put, List.setIfInBounds_toArray, List.set_cons_zero, List.set_cons_succ]
                      refine' wpAnyL_take (i := 9) (oi := ⟨some 26, _, _, _, _, _⟩) (v := _) rfl (by kernel_rfl) (by kernel_rfl) (by kernel_rfl) (by kernel_rfl) (fun _ _ _ h => h) hH1 (by rfl) ?hyv ?onw
                      case hyv =>
                        intro wz hSw
                        go_simp
                        try rfl
                      case onw =>
                        try simp only [Act.put, List.setIfInBounds_toArray, List.set_cons_zero, List.set_cons_succ]
                        refine wpAnyL_done (by kernel_rfl) ?_ _
                        clear x1 x2 HC
                        have BE := hbr.trans (hH1.mono hbr.size)
                        go_wp2_with fail
                        go_roundg (n - (i + 1))
                        case measure => omega
                        case rel => exact ⟨i + 1, by omega, rfl, by go_num, BE⟩
end Go.Proofs.YtgjdkgkgbmbffaaDoor
namespace Go.Proofs.YtgjdkgkgbmbffaaDoor
open Go.RowKit Go.IntWalk
set_option linter.unusedVariables false
set_option linter.unusedSimpArgs false
theorem aside_cell {S : List Nat} {B : Nat} {w w' : World} (a : Aside S B w w') {p : Addr} (h : p.block < B) (hs : p.block ∉ S) : w'.cell? p = w.cell? p := World.cell?_of_block (a.block _ h hs)
/-- cells in block g -/
def LB (w : World) (g : Nat) (l : List Int) : Prop := w.heap[g]? = some (.cells (l.map (Value.int .i64)).toArray 2 (0, 0))
theorem LB.lt {w : World} {g : Nat} {l : List Int} (h : LB w g l) : g < w.heap.size := lt_of h
theorem LB.keep {w w' : World} {g : Nat} {l : List Int} (h : LB w g l) (hk : w'.heap[g]? = w.heap[g]?) : LB w' g l := hk.trans h
theorem LB.under {w w' : World} {g : Nat} {l : List Int} (h : LB w g l) (b : Below w.heap.size w w') : LB w' g l := h.keep (b.block _ h.lt)
theorem LB.at {w : World} {g : Nat} {l : List Int} (h : LB w g l) {i : Nat} (hi : i < l.length) : w.cell? ⟨g, i, none⟩ = some (.int .i64 l[i]) := by
  unfold LB at h
  rw [cell_of h i]
  simp [hi]
theorem LB.free {w : World} {g : Nat} {l : List Int} (h : LB w g l) (o : Nat) : w.frozen? ⟨g, o, none⟩ = false := free_of h o
theorem LB.set {w : World} {g : Nat} {l : List Int} (h : LB w g l) (i : Nat) (x : Int) : LB (w.setCell ⟨g, i, none⟩ (.int .i64 x)) g (l.set i x) := by
  unfold LB at h ⊢
  rw [set_in h i (.int .i64 x)]
  simp [List.map_set]
theorem LB.ints {w : World} {g : Nat} {l : List Int} (h : LB w g l) (hl : l.length ≤ maxLen) {ok : Nat → Prop} (hg : ok g) : HInts ok w (.slice (some ⟨g, 0, none⟩) l.length l.length) l := by
  refine ⟨fun i => [.int .i64 (l.getD i 0)], ⟨some ⟨g, 0, none⟩, l.length, rfl, Nat.le_refl _, hl, fun _ => ⟨g, 0, rfl, hg, h.lt, fun i hi => ⟨rfl, fun j hj => ?_⟩⟩⟩, fun i hi => by simp [hi]⟩
  have e : j = 0 := by omega
  subst e
  rw [Nat.zero_add, Nat.mul_one, Nat.add_zero, h.at hi]
  simp [hi]
/-- a machine in block mb, its cells in block cb -/
structure MaAt (w : World) (mb cb : Nat) (c : Int) (vP vG vS : Value) (nc : Nat) : Prop where
  m : w.heap[mb]? = some (.cells #[.int .i64 c, vP, vG, vS, .slice (some ⟨cb, 0, none⟩) nc nc] 64 (0, 0))
  ne : mb ≠ cb
theorem MaAt.past {w w' : World} {mb cb : Nat} {c : Int} {vP vG vS : Value} {nc : Nat} (h : MaAt w mb cb c vP vG vS nc) (a : Aside [cb] w.heap.size w w') : MaAt w' mb cb c vP vG vS nc :=
  ⟨a.keep h.m (lt_of h.m) (by simpa using h.ne), h.ne⟩
theorem tree47_ma {w : World} {mb cb : Nat} {c : Int} {vP vG vS : Value} {nc : Nat} {M : List Int} (hm : MaAt w mb cb c vP vG vS nc) (hl : LB w cb M) (hn : nc = M.length) (hc : (M.length : Int) = c) (hcM : c ≤ 6000) {okE : Nat → Prop} {u : Value} {E : List Pu} (hE : HPu okE w u E) {n0 : Int} (hf : Lo.Fit c n0 E) (hn0 : n0 ≤ 300) (kk : Nat) (hkk : (kk : Int) < n0) :
    Calls Tryd.prog 47 #[.pointer (some ⟨mb, 0, none⟩), u, .int .i64 (kk : Int)] w fun e w' => e = .returned (.int .i64 (Lo.tree M (kk : Int) E)) ∧ Below w.heap.size w w' := by
  subst hn
  exact tree47_any hm.m (hl.ints (ok := fun _ => True) (by unfold maxLen; omega) trivial) hE hf hn0 hc kk hkk
end Go.Proofs.YtgjdkgkgbmbffaaDoor
