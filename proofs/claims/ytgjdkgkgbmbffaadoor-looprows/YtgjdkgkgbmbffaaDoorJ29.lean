import Derived.Test.YtgjdkgkgbmbffaaDoorJ28
import Derived.WalkKit
import Derived.WalkSpells
import Derived.IntWalk
import Derived.Deep.Cut
import Derived.Deep.LoopGhost
import Derived.Laws.Cover1
import Derived.Lib.Hide
set_option linter.unusedVariables false
set_option linter.unusedSimpArgs false
set_option maxHeartbeats 64000000
set_option maxRecDepth 100000
namespace Go.Proofs.YtgjdkgkgbmbffaaDoor
open Go.RowKit Go.IntWalk
set_option linter.unusedVariables false
set_option linter.unusedSimpArgs false
structure RowPost (w : World) (cb : Nat) (L : Lo.Lp) (M inp : List Int) (e : Ending) (w' : World) : Prop where
  out : ∃ v, e = .returned (.tuple #[v, .agg #[.int .i64 0, .int .i64 0]]) ∧ LB w' cb (Lo.row L M inp) ∧ OwnL kLong w.heap.size w' v (Lo.told L (Lo.row L M inp)) ∧ Aside [cb] w.heap.size w w'
set_option maxHeartbeats 16000000 in
theorem row14_bad {w : World} {mb cb nc : Nat} {aP aG aS : Option Addr} {cP cG cS : Nat} {L : Lo.Lp} {M : List Int} (hM : Mach w mb cb nc aP aG aS cP cG cS L) (aI : Option Addr) (nI cI : Nat) (hI : nI ≠ L.P.length) (hn : nI ≤ 1000000) (hp : L.P.length ≤ 1000000) :
    Calls Tryd.prog 14 #[.pointer (some ⟨mb, 0, none⟩), .slice aI nI cI] w fun e w' => e = .returned (.tuple #[.slice none 0 0, .agg #[.int .i64 17, .int .i64 (-1)]]) ∧ Below w.heap.size w w' := by
  have b1 : Below w.heap.size w (w.alloc (.cells #[.int .i64 0, .int .i64 0] 29 (0, 0))) := (Below.refl _ _).alloc (Nat.le_refl _) _
  have kF := heap_new w (.cells #[.int .i64 0, .int .i64 0] 29 (0, 0))
  have hM1 := hM.past (aside b1)
  go_enter Tryd.func14, Tryd.ntmps14
  go_upto_region 1 with fail
  generalize (w.alloc (.cells #[.int .i64 0, .int .i64 0] 29 (0, 0))) = w1 at b1 kF hM1 ⊢
  have m1 := cell_of hM1.m.m 1
  have m2 := cell_of hM1.m.m 2
  have m3 := cell_of hM1.m.m 3
  have m4 := cell_of hM1.m.m 4
  simp at m1 m2 m3 m4
  have yM := lt_of hM1.m.m
  have hne : ((nI : Int) != (L.P.length : Int)) = true := by simp; omega
  clear hI
  clear hM hM1
  have st0 := cell_of kF 0
  have st1 := cell_of kF 1
  have fr0 := free_of kF 0
  have fr1 := free_of kF 1
  simp at st0 st1
  have KR := set_in (set_in kF 0 (.int .i64 17)) 1 (.int .i64 (-1))
  have r0 := cell_of KR 0
  have r1 := cell_of KR 1
  simp at r0 r1
  have BR := (b1.setCell (p := ⟨w.heap.size, 0, none⟩) (Nat.le_refl _) (.int .i64 17)).setCell (p := ⟨w.heap.size, 1, none⟩) (Nat.le_refl _) (.int .i64 (-1))
  clear KR kF
  go_wp2
  exact bodyPost_ret (v := .tuple #[.slice none 0 0, .agg #[.int .i64 17, .int .i64 (-1)]]) (by simp [results, Tryd.results14, go_sem, r0, r1]) rfl ⟨rfl, BR⟩
theorem HInts.at2 {ok : Nat → Prop} {w : World} {v : Value} {l : List Int} (h : HInts ok w v l) :
    ∃ ao cap, v = .slice ao l.length cap ∧ l.length ≤ cap ∧ cap ≤ maxLen ∧ ∀ i (h : i < l.length), ∃ b o, ao = some ⟨b, o, none⟩ ∧ b < w.heap.size ∧ ok b ∧ w.cell? ⟨b, o + i, none⟩ = some (.int .i64 l[i]) := by
  have h0 := h
  obtain ⟨ao, cap, e, h1, h2, hat⟩ := h.at
  obtain ⟨C, ⟨ao2, cap2, hv, -, -, h3⟩, -⟩ := h0
  rw [e] at hv
  injection hv with q1 q2 q3
  subst q1 q3
  refine ⟨ao, cap, e, h1, h2, fun i hi => ?_⟩
  obtain ⟨b, o, ha, hb, hc⟩ := hat i hi
  obtain ⟨b2, o2, ha2, hob, -, -⟩ := h3 (by omega)
  rw [ha] at ha2
  injection ha2 with ha2
  injection ha2 with z1 z2
  subst z1
  exact ⟨b, o, ha, hb, hob, hc⟩
theorem OwnL.less {α : Type} {T : Kind α} {B B' : Nat} {w : World} {v : Value} {l : List α} (h : OwnL T B w v l) (hB : B' ≤ B) : OwnL T B' w v l := by
  obtain ⟨D, ⟨o1, o2⟩, o3⟩ := h
  refine ⟨D, ⟨o1, ?_⟩, fun j hj => T.wide (o3 j hj) fun q hq _ => ⟨Nat.le_trans hB hq.1, hq.2⟩⟩
  rcases o2 with q | ⟨g, cap, cur, e1, e2, e3⟩
  · exact .inl q
  · exact .inr ⟨g, cap, cur, e1, Nat.le_trans hB e2, e3⟩
set_option maxHeartbeats 32000000 in
theorem row14_any {w : World} {mb cb nc : Nat} {aP aG aS : Option Addr} {cP cG cS : Nat} {L : Lo.Lp} {M : List Int} (hM : Mach w mb cb nc aP aG aS cP cG cS L) (hl : LB w cb M) (hc : (M.length : Int) = L.c) (hGd : Lo.Good L) (hGn : L.P.length ≤ 6000 ∧ L.G.length ≤ 120000 ∧ L.S.length ≤ 1200) {okI : Nat → Prop} {aI : Option Addr} {cI : Nat} {inp : List Int} (hI : HInts okI w (.slice aI L.P.length cI) inp) (hok : ∀ i, okI i → i ≠ cb) (hlen : inp.length = L.P.length) :
    Calls Tryd.prog 14 #[.pointer (some ⟨mb, 0, none⟩), .slice aI L.P.length cI] w (RowPost w cb L M inp) := by
  have b1 : Below w.heap.size w (w.alloc (.cells #[.int .i64 0, .int .i64 0] 29 (0, 0))) := (Below.refl _ _).alloc (Nat.le_refl _) _
  have kF := heap_new w (.cells #[.int .i64 0, .int .i64 0] 29 (0, 0))
  have hM1 := hM.past (aside b1)
  have hl1 := hl.under b1
  have hI1 := hI.under b1
  have hcb := hl.lt
  have hcb1 := hl1.lt
  have hML : M.length ≤ 6000 := by have := hGd.c; omega
  obtain ⟨hPn, hGn, hSn⟩ := hGn
  obtain ⟨X, hX⟩ : ∃ X, X = Lo.putL M L.P inp := ⟨_, rfl⟩
  have hXl : X.length = M.length := by rw [hX]; exact Lo.putL_len _ _ _
  have HX := hide (show X = Lo.putL M (L.P.drop 0) (inp.drop 0) by rw [List.drop_zero, List.drop_zero]; exact hX)
  obtain ⟨Y, hY⟩ : ∃ Y, Y = L.S.foldl Lo.doS X := ⟨_, rfl⟩
  have HY := hide (show Y = (L.S.drop 0).foldl Lo.doS X by rw [List.drop_zero]; exact hY)
  have HRow := hide (show Lo.row L M inp = Y by unfold Lo.row; rw [← hX, hY])
  have HGd := hide hGd
  have HC := hide hc
  have HI := hide hI1
  have HLen := hide hlen
  have HOK := hide hok
  have HMX := hide hXl
  clear hX hY hM hl hI hI1 hlen hok hGd hc hXl
  go_enter Tryd.func14, Tryd.ntmps14
  go_upto_region 1 with fail
  have yF := lt_of kF
  generalize (w.alloc (.cells #[.int .i64 0, .int .i64 0] 29 (0, 0))) = w1 at b1 kF hM1 hl1 HI hcb1 yF ⊢
  have m1 := cell_of hM1.m.m 1
  have m2 := cell_of hM1.m.m 2
  have m3 := cell_of hM1.m.m 3
  have m4 := cell_of hM1.m.m 4
  simp at m1 m2 m3 m4
  have yM := lt_of hM1.m.m
  have hnn : ((L.P.length : Int) != (L.P.length : Int)) = false := by simp
  go_wp2_with fail
  go_loopg [29] L.P.length (fun k v wr => ∃ (i : Nat) (M' : List Int), i ≤ L.P.length ∧ k = L.P.length - i ∧ v = .int .i64 (i : Nat) ∧ Hid (X = Lo.putL M' (L.P.drop i) (inp.drop i)) ∧ Hid (LB wr cb M' ∧ M'.length = M.length) ∧ Aside [cb] w1.heap.size w1 wr)
  case atStart => exact ⟨0, M, Nat.zero_le _, rfl, rfl, HX, hide ⟨hl1, rfl⟩, Aside.refl _⟩
  case round =>
    clear HX m1 m2 m3 m4 hl1 yM
    obtain ⟨i, M', hi, rfl, rfl, H, HL, hbr⟩ := hrel
    have hMr := hM1.past hbr
    have kFr := hbr.keep kF yF (by simp; omega)
    have m1 := cell_of hMr.m.m 1
    have m2 := cell_of hMr.m.m 2
    have m3 := cell_of hMr.m.m 3
    have m4 := cell_of hMr.m.m 4
    simp at m1 m2 m3 m4
    have yM := lt_of hMr.m.m
    by_cases hlt : i < L.P.length
    case pos =>
      obtain ⟨kC0, hM'⟩ := HL.out
      have hpg := HGd.out.P
      obtain ⟨aoP, cpP, eP, -, -, hatP⟩ := hMr.h.P.at2
      injection eP with q1 q2 q3
      obtain ⟨bP, oP, eaP, yP, nP, e0⟩ := hatP i hlt
      rw [eaP] at q1
      obtain ⟨aoI, cpI, eI, -, -, hatI⟩ := (HI.out.past hbr HOK.out).at2
      injection eI with r1 r2 r3
      have hiI : i < inp.length := by have := HLen.out; omega
      obtain ⟨bI, oI, eaI, yI, nI, f0⟩ := hatI i hiI
      have nI2 := HOK.out _ nI
      rw [eaI] at r1
      have hR1 := H.out
      rw [List.drop_eq_getElem_cons hlt, List.drop_eq_getElem_cons hiI, Lo.putL] at hR1
      have hpi := hpg _ (List.getElem_mem hlt)
      generalize (L.P)[i] = p at e0 hR1 hpi
      generalize inp[i] = x at f0 hR1
      obtain ⟨pn, rfl⟩ : ∃ pn : Nat, p = (pn : Int) := ⟨p.toNat, by omega⟩
      rw [Int.toNat_natCast] at hR1
      have hpl : pn < M'.length := by have := HC.out; omega
      have hpc : pn < nc := by have := hM1.n; omega
      have HR1 := hide hR1
      have HM' := hide hM'
      subst r1 q1
      clear hatP hatI q2 q3 r2 r3 hR1 H HL hM' hpg hpi kFr
      go_upto_region 6 with fail
      refine wp_region_late (fun w' => Aside [cb] wr.heap.size wr w') (fun _ => false) (by kernel_rfl) ?_
      have hH0 : Aside [cb] wr.heap.size wr wr.drew := (Aside.refl _).drew
      have kC : LB wr.drew cb M' := kC0
      generalize wr.drew = wd0 at hH0 kC ⊢
      refine' wpAnyL_take (i := 0) (oi := ⟨some 34, _, _, _, _, _⟩) (v := _) rfl (by kernel_rfl) (by kernel_rfl) (by kernel_rfl) (by kernel_rfl) (fun _ _ _ h => h) hH0 (by rfl) ?hyv ?onw
      case hyv =>
        intro wz hSw
        go_simp
        try rfl
      case onw =>
        try simp only [Act.put, List.setIfInBounds_toArray, List.set_cons_zero, List.set_cons_succ]
        refine' wpAnyL_take (i := 1) (oi := ⟨some 35, _, _, _, _, _⟩) (v := _) rfl (by kernel_rfl) (by kernel_rfl) (by kernel_rfl) (by kernel_rfl) (fun _ _ _ h => h) hH0 (by rfl) ?hyv ?onw
        case hyv =>
          intro wz hSw
          go_simp
          try rfl
        case onw =>
          try simp only [Act.put, List.setIfInBounds_toArray, List.set_cons_zero, List.set_cons_succ]
          refine' wpAnyL_take (i := 2) (oi := ⟨some 36, _, _, _, _, _⟩) (v := _) rfl (by kernel_rfl) (by kernel_rfl) (by kernel_rfl) (by kernel_rfl) (fun _ _ _ h => h) hH0 (by rfl) ?hyv ?onw
          case hyv =>
            intro wz hSw
            go_simp
            try rfl
          case onw =>
            try simp only [Act.put, List.setIfInBounds_toArray, List.set_cons_zero, List.set_cons_succ]
            refine' wpAnyL_take (i := 3) (oi := ⟨some 37, _, _, _, _, _⟩) (v := _) rfl (by kernel_rfl) (by kernel_rfl) (by kernel_rfl) (by kernel_rfl) (fun _ _ _ h => h) hH0 (by rfl) ?hyv ?onw
            case hyv =>
              intro wz hSw
              have zc0 := (aside_cell hSw (p := ⟨mb, 4, none⟩) yM (by simpa using hMr.m.ne)).trans m4
              have zc1 := (aside_cell hSw (p := ⟨bI, oI + i, none⟩) yI (by simpa using nI2)).trans f0
              go_simp
              try rfl
            case onw =>
              try simp only [Act.put, List.setIfInBounds_toArray, List.set_cons_zero, List.set_cons_succ]
              refine' wpAnyL_take (i := 4) (oi := ⟨some 38, _, _, _, _, _⟩) (v := _) rfl (by kernel_rfl) (by kernel_rfl) (by kernel_rfl) (by kernel_rfl) (fun _ _ _ h => h) hH0 (by rfl) ?hyv ?onw
              case hyv =>
                intro wz hSw
                go_simp
                try rfl
              case onw =>
                try simp only [Act.put, List.setIfInBounds_toArray, List.set_cons_zero, List.set_cons_succ]
                refine' wpAnyL_take (i := 5) (oi := ⟨some 39, _, _, _, _, _⟩) (v := _) rfl (by kernel_rfl) (by kernel_rfl) (by kernel_rfl) (by kernel_rfl) (fun _ _ _ h => h) hH0 (by rfl) ?hyv ?onw
                case hyv =>
                  intro wz hSw
                  go_simp
                  try rfl
                case onw =>
                  try simp only [Act.put, List.setIfInBounds_toArray, List.set_cons_zero, List.set_cons_succ]
                  refine' wpAnyL_take (i := 6) (oi := ⟨some 40, _, _, _, _, _⟩) (v := _) rfl (by kernel_rfl) (by kernel_rfl) (by kernel_rfl) (by kernel_rfl) (fun _ _ _ h => h) hH0 (by rfl) ?hyv ?onw
                  case hyv =>
                    intro wz hSw
                    go_simp
                    try rfl
                  case onw =>
                    try simp only [Act.put, List.setIfInBounds_toArray, List.set_cons_zero, List.set_cons_succ]
                    refine' wpAnyL_take (i := 7) (oi := ⟨some 41, _, _, _, _, _⟩) (v := _) rfl (by kernel_rfl) (by kernel_rfl) (by kernel_rfl) (by kernel_rfl) (fun _ _ _ h => h) hH0 (by rfl) ?hyv ?onw
                    case hyv =>
                      intro wz hSw
                      go_simp
                      try rfl
                    case onw =>
                      try simp only [Act.put, List.setIfInBounds_toArray, List.set_cons_zero, List.set_cons_succ]
                      refine' wpAnyL_take (i := 8) (oi := ⟨some 42, _, _, _, _, _⟩) (v := _) rfl (by kernel_rfl) (by kernel_rfl) (by kernel_rfl) (by kernel_rfl) (fun _ _ _ h => h) hH0 (by rfl) ?hyv ?onw
                      case hyv =>
                        intro wz hSw
                        have zc0 := (aside_cell hSw (p := ⟨mb, 4, none⟩) yM (by simpa using hMr.m.ne)).trans m4
                        have zc1 := (aside_cell hSw (p := ⟨bI, oI + i, none⟩) yI (by simpa using nI2)).trans f0
                        go_simp
                        try rfl
                      case onw =>
                        try simp only [Act.put, List.setIfInBounds_toArray, List.set_cons_zero, List.set_cons_succ]
                        refine' wpAnyL_take (i := 9) (oi := ⟨some 43, _, _, _, _, _⟩) (v := _) rfl (by kernel_rfl) (by kernel_rfl) (by kernel_rfl) (by kernel_rfl) (fun _ _ _ h => h) hH0 (by rfl) ?hyv ?onw
                        case hyv =>
                          intro wz hSw
                          go_simp
                          try rfl
                        case onw =>
                          try simp only [Act.put, List.setIfInBounds_toArray, List.set_cons_zero, List.set_cons_succ]
                          refine wpAnyL_one (i := 10) (o := _) rfl (by kernel_rfl) (by rfl) (fun K hK => ?_)
                          have fr := kC.free pn
                          have st0 := kC.at (i := pn) hpl
                          go_simp
                          have hH1 : Aside [cb] wr.heap.size wr (wd0.setCell ⟨cb, pn, none⟩ (.int .i64 x)) := hH0.trans (Aside.setCell (B := wd0.heap.size) (by simp) _) hH0.size
                          refine hK.out _ _ (fun _ => hH1) ?_
                          clear hK K fr st0
                          try simp only [Act.put, List.setIfInBounds_toArray, List.set_cons_zero, List.set_cons_succ]
                          have kE := kC.set pn x
                          generalize wd0.setCell ⟨cb, pn, none⟩ (.int .i64 x) = wd1 at hH1 kE ⊢
                          refine wpAnyL_done (by kernel_rfl) ?_ _
                          go_wp2_with fail
                          go_roundg (L.P.length - (i + 1))
                          case measure => omega
                          case rel => exact ⟨i + 1, M'.set pn x, by omega, rfl, by go_num, HR1, hide ⟨kE, by rw [List.length_set]; exact HM'.out⟩, hbr.trans hH1 hbr.size⟩
    case neg =>
      have HZ := hide (show X = M' by
        rw [H.out, List.drop_of_length_le (show L.P.length ≤ i by omega)]
        cases hd : inp.drop i <;> rfl)
      obtain ⟨kC0, hM'⟩ := HL.out
      rw [← HZ.out] at kC0
      have Br := (aside b1).trans hbr b1.size
      have hcr := kC0.lt
      have yFr := lt_of kFr
      clear H HL hM' HZ
      obtain ⟨w2, hw2⟩ : ∃ w2, w2 = wr := ⟨_, rfl⟩
      subst hw2
      go_wp2_with fail
      go_loopg [51] L.S.length (fun k v wr => ∃ (i : Nat) (M' : List Int), i ≤ L.S.length ∧ k = L.S.length - i ∧ v = .int .i64 (i : Nat) ∧ Hid (Y = (L.S.drop i).foldl Lo.doS M') ∧ Hid (LB wr cb M' ∧ M'.length = M.length) ∧ Aside [cb] w2.heap.size w2 wr)
      case atStart => exact ⟨0, X, Nat.zero_le _, rfl, rfl, HY, hide ⟨kC0, HMX.out⟩, Aside.refl _⟩
      case round =>
        clear HY m1 m2 m3 m4 kC0 yM
        obtain ⟨j, M', hj, rfl, rfl, H, HL, hbs⟩ := hrel
        have hMs := hMr.past hbs
        have kFs := hbs.keep kFr yFr (by simp; omega)
        have m1 := cell_of hMs.m.m 1
        have m2 := cell_of hMs.m.m 2
        have m3 := cell_of hMs.m.m 3
        have m4 := cell_of hMs.m.m 4
        simp at m1 m2 m3 m4
        have yM := lt_of hMs.m.m
        by_cases hlt : j < L.S.length
        case pos =>
          obtain ⟨kC0, hM'⟩ := HL.out
          obtain ⟨aoS, cpS, eS, -, -, hatS⟩ := hMs.h.S.at
          injection eS with q1 q2 q3
          obtain ⟨bS, oS, y, eaS, yS, ⟨e0, e1, e2, e3, e4, e5⟩, hy⟩ := hatS j hlt
          rw [eaS] at q1
          have hok := HGd.out.S _ (List.getElem_mem hlt)
          have hR1 := H.out
          rw [List.drop_eq_getElem_cons hlt, List.foldl_cons] at hR1
          generalize (L.S)[j] = s at e0 e1 e2 e3 hok hR1 hy
          have HR1 := hide hR1
          have bA : Below wr.heap.size wr (wr.alloc (.cells #[.int .i64 s.op, .int .i64 s.k, .int .i64 s.n, .int .i64 s.tgt, .slice y.aF y.nF y.cF, .slice y.aE y.nE y.cE] 54 (0, 0))) := (Below.refl _ _).alloc (Nat.le_refl _) _
          have kV := heap_new wr (.cells #[.int .i64 s.op, .int .i64 s.k, .int .i64 s.n, .int .i64 s.tgt, .slice y.aF y.nF y.cF, .slice y.aE y.nE y.cE] 54 (0, 0))
          have hct := do29_any (hMs.m.past (aside bA)) hMs.n (kC0.under bA) (by rw [hM']; exact HC.out) HGd.out.c.2 s (hy.under bA) hok
          have hsz := hbs.size
          have BA := hbs.trans (aside (S := [cb]) bA) hsz
          have HCT := hide hct
          have HM' := hide hM'
          subst q1
          clear hatS q2 q3 hR1 H HL hct hM' hok hy kC0 m1 m2 m3 m4 yM kFs
          go_upto_region 11 with fail
          generalize wr.alloc (.cells #[.int .i64 s.op, .int .i64 s.k, .int .i64 s.n, .int .i64 s.tgt, .slice y.aF y.nF y.cF, .slice y.aE y.nE y.cE] 54 (0, 0)) = w3 at bA kV HCT BA ⊢
          have v0 := cell_of kV 0
          have v1 := cell_of kV 1
          have v2 := cell_of kV 2
          have v3 := cell_of kV 3
          have v4 := cell_of kV 4
          have v5 := cell_of kV 5
          simp at v0 v1 v2 v3 v4 v5
          clear e0 e1 e2 e3 e4 e5
          go_wp2_with fail
          refine HCT.out.mono ?_
          rintro e w4 ⟨he, hl4, ha4⟩
          subst he
          have B4 := BA.trans ha4 BA.size
          have HL4 := hide (And.intro hl4 ((Lo.doS_len M' s).trans HM'.out))
          clear v0 v1 v2 v3 v4 v5 kV HCT hl4 ha4 BA
          go_wp2_with fail
          go_roundg (L.S.length - (j + 1))
          case measure => omega
          case rel => exact ⟨j + 1, Lo.doS M' s, by omega, rfl, by go_num, HR1, HL4, B4⟩
        case neg =>
          have HZ := hide (show Y = M' by rw [H.out, List.drop_of_length_le (show L.S.length ≤ j by omega)]; rfl)
          obtain ⟨kC0, hM'⟩ := HL.out
          rw [← HZ.out] at kC0 hM'
          have Bs := Br.trans hbs Br.size
          have yFs := lt_of kFs
          have hcs := kC0.lt
          have HMY := hide hM'
          clear H HL HZ hM'
          obtain ⟨w3, hw3⟩ : ∃ w3, w3 = wr := ⟨_, rfl⟩
          subst hw3
          obtain ⟨LZ, hLZ⟩ : ∃ LZ, LZ = ((List.replicate L.G.length (0 : Int)).map (Value.int .i64)).toArray := ⟨_, rfl⟩
          have hmk : (Instr.makeSlice 40 (.int .i64 0) (.int .i64 (L.G.length : Int))).run Tryd.prog w3 = .ok (.slice (some ⟨w3.heap.size, 0, none⟩) 0 L.G.length) (w3.alloc (.cells LZ 2 (0, 0))) := by rw [hLZ]; exact make_longs 0 L.G.length (by omega) (by omega) w3
          have own0 : OwnL kLong w3.heap.size (w3.alloc (.cells LZ 2 (0, 0))) (.slice (some ⟨w3.heap.size, 0, none⟩) 0 L.G.length) [] := OwnL.made (Nat.le_refl _) _ L.G.length (by unfold maxLen; omega) (by rw [hLZ]; simp)
          have bZ : Below w3.heap.size w3 (w3.alloc (.cells LZ 2 (0, 0))) := (Below.refl _ _).alloc (Nat.le_refl _) _
          have HO0 := hide own0
          clear hLZ own0
          go_upto_region 14 with fail
          clear hmk
          generalize w3.alloc (.cells LZ 2 (0, 0)) = w4 at bZ HO0 ⊢
          have hMz := hMs.past (aside bZ)
          have kFz := (bZ.block _ yFs).trans kFs
          have kCz := kC0.under bZ
          have hz0 := bZ.size
          clear m1 m2 m3 m4 yM
          have m1 := cell_of hMz.m.m 1
          have m2 := cell_of hMz.m.m 2
          have m3 := cell_of hMz.m.m 3
          have m4 := cell_of hMz.m.m 4
          simp at m1 m2 m3 m4
          have yM := lt_of hMz.m.m
          go_wp2_with fail
          go_loopg [10, 72] L.G.length (fun k sv v wr => ∃ (q : Nat), q ≤ L.G.length ∧ k = L.G.length - q ∧ v = .int .i64 (q : Nat) ∧ Hid (OwnL kLong w3.heap.size wr sv ((L.G.take q).map fun g => Lo.rd Y g)) ∧ Below w3.heap.size w3 wr)
          case atStart => exact ⟨0, Nat.zero_le _, rfl, rfl, by simpa using HO0, bZ⟩
          case round =>
            clear HO0 m1 m2 m3 m4 yM
            obtain ⟨q, hq, rfl, rfl, HO, hbt⟩ := hrel
            obtain ⟨aX, cX, eX, hcx1, hcx2⟩ := HO.out.form
            have hln : ((L.G.take q).map fun g => Lo.rd Y g).length = q := by simp; omega
            rw [hln] at eX
            subst eX
            have kCt := kC0.under hbt
            have hMt := hMs.past (aside hbt)
            have kFt := (hbt.block _ yFs).trans kFs
            by_cases hlt : q < L.G.length
            case neg =>
              have hin : q = L.G.length := by omega
              have HT := hide (show OwnL kLong w3.heap.size wr (.slice aX q cX) (Lo.told L Y) by
                have := HO.out
                rw [hin, List.take_length] at this
                rw [hin]
                exact this)
              have st0 := cell_of kFt 0
              have st1 := cell_of kFt 1
              have fr0 := free_of kFt 0
              have fr1 := free_of kFt 1
              simp at st0 st1
              have KR := set_in (set_in kFt 0 (.int .i64 0)) 1 (.int .i64 0)
              have r0 := cell_of KR 0
              have r1 := cell_of KR 1
              simp at r0 r1
              have Bt := Bs.trans (aside (S := [cb]) hbt) Bs.size
              have aE : Aside [w.heap.size] wr.heap.size wr ((wr.setCell ⟨w.heap.size, 0, none⟩ (.int .i64 0)).setCell ⟨w.heap.size, 1, none⟩ (.int .i64 0)) :=
                (Aside.setCell (p := ⟨w.heap.size, 0, none⟩) (by simp) _).trans (Aside.setCell (B := wr.heap.size) (p := ⟨w.heap.size, 1, none⟩) (by simp) _) (Nat.le_refl _)
              have BE := (Bt.set (p := ⟨w.heap.size, 0, none⟩) (Nat.le_refl _) (.int .i64 0)).set (p := ⟨w.heap.size, 1, none⟩) (Nat.le_refl _) (.int .i64 0)
              have HOE := hide ((HT.out.past aE (by intro k hk; simp at hk; omega)).less (B' := w.heap.size) (by omega))
              have HCE := hide (show LB ((wr.setCell ⟨w.heap.size, 0, none⟩ (.int .i64 0)).setCell ⟨w.heap.size, 1, none⟩ (.int .i64 0)) cb Y from kCt.keep (aE.block cb kCt.lt (by simp; omega)))
              clear KR aE HT HO hln kCt
              go_wp2
              refine bodyPost_ret (v := .tuple #[.slice aX q cX, .agg #[.int .i64 0, .int .i64 0]]) (by simp [results, Tryd.results14, go_sem, r0, r1]) rfl ⟨⟨_, rfl, ?_, ?_, BE⟩⟩
              · rw [HRow.out]; exact HCE.out
              · rw [HRow.out]; exact HOE.out
            case pos =>
              have m1 := cell_of hMt.m.m 1
              have m2 := cell_of hMt.m.m 2
              have m3 := cell_of hMt.m.m 3
              have m4 := cell_of hMt.m.m 4
              simp at m1 m2 m3 m4
              have yM := lt_of hMt.m.m
              obtain ⟨aoG, cpG, eG, -, -, hatG⟩ := hMt.h.G.at2
              injection eG with q1 q2 q3
              obtain ⟨bG, oG, eaG, yG, nG, e0⟩ := hatG q hlt
              rw [eaG] at q1
              have hgi := HGd.out.G _ (List.getElem_mem hlt)
              have hts : (L.G.take (q + 1)).map (fun g => Lo.rd Y g) = (L.G.take q).map (fun g => Lo.rd Y g) ++ [Lo.rd Y (L.G)[q]] := by rw [List.take_succ_eq_append_getElem hlt, List.map_append]; rfl
              generalize (L.G)[q] = g at e0 hts hgi
              obtain ⟨gn, rfl⟩ : ∃ gn : Nat, g = (gn : Int) := ⟨g.toNat, by omega⟩
              have hgl : gn < Y.length := by have := HC.out; have := HMY.out; omega
              have hgc : gn < nc := by have := hM1.n; omega
              have c0 := kCt.at hgl
              have hrd : Lo.rd Y (gn : Int) = Y[gn] := by unfold Lo.rd; rw [Int.toNat_natCast, List.getD_eq_getElem?_getD, List.getElem?_eq_getElem hgl]; rfl
              rw [hrd] at hts
              generalize Y[gn] = x at c0 hts
              have HTS := hide hts
              have HNb := hide (fun k (e : (Value.slice aX q cX).ownBlock = some k) => (HO.out.lt k e).2)
              have zB := hbt.size
              have qA : (((L.G.take q).map fun g => Lo.rd Y g).length + 1) * 8 ≤ 140737488355328 := by rw [hln]; omega
              have qB : ((L.G.take q).map fun g => Lo.rd Y g).length + 1 ≤ maxLen := by rw [hln]; unfold maxLen; omega
              have BF := hide hbt
              subst q1
              clear hatG q2 q3 hrd hts hln hcx1 hcx2 hgi kFt
              go_wp2_with (at_builtin; refine wpList_more kLong rfl _ _ 40 2 rfl Tryd.underlying40 w3.heap.size wr.heap.size _ ((L.G.take q).map fun g => Lo.rd Y g) (by rfl) HO.out [.int .i64 x] x rfl (by rfl) HNb.out zB zB qA qB ?_; intro v8 w8 own8 b8 _ _; have HO8 := hide own8; have HB8 := hide (BF.out.trans b8); clear own8 HO HNb b8)
              go_roundg (L.G.length - (q + 1))
              case measure => omega
              case rel => exact ⟨q + 1, by omega, rfl, by go_num, hide (by rw [HTS.out]; exact HO8.out), HB8.out⟩
end Go.Proofs.YtgjdkgkgbmbffaaDoor
