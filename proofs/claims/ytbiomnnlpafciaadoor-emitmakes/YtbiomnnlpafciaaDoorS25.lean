import Derived.Test.YtbiomnnlpafciaaDoorS24
import Derived.Test.YtbiomnnlpafciaaDoorS22
import Derived.WalkKit
import Derived.WalkSpells
import Derived.IntWalk
import Derived.Deep.Cut
import Derived.Deep.LoopGhost
import Derived.Laws.Cover1
import Derived.Lib.Hide
set_option linter.unusedVariables false
set_option linter.unusedSimpArgs false
set_option maxHeartbeats 64000000
set_option maxRecDepth 100000
namespace Go.Proofs.YtbiomnnlpafciaaDoor
open Go.RowKit Go.IntWalk
set_option linter.unusedVariables false
set_option linter.unusedSimpArgs false
theorem ownX_plainE {α : Type} {T : Kind α} {ok ok' : Nat → Prop} {w : World} {v : Value} {l : List α} (h : OwnX T ok w v l) (hk : ∀ j, v.ownBlock = some j → ok' j) (hE : ∀ ok ok' w cs a, T.E ok w cs a → T.E ok' w cs a) : OwnX T ok' w v l := by
  obtain ⟨D, h1, h2, h3⟩ := h
  exact ⟨D, h1, hk, fun j hj => hE _ _ _ _ _ (h3 j hj)⟩
theorem HIns.past {okr : Nat → Prop} {w w' : World} {v : Value} {l : List Cd.In} (h : HIns okr w v l) {S : List Nat} (a : Aside S w.heap.size w w') (hok : ∀ i, okr i → i ∉ S) : HIns okr w' v l := h.keep a.size fun i hi hl => a.block i hl (hok i hi)
set_option maxHeartbeats 16000000 in
theorem add43_any {w : World} {cb k : Nat} {v : Value} {C X : List Cd.In} {R : Int} {okr : Nat → Prop} {aX : Option Addr} {cX : Nat} (h : CO w cb k v C R) (hX : HIns okr w (.slice aX X.length cX) X) (hok : ∀ i, okr i → i ≠ cb ∧ i ≠ k) (hlen : C.length + X.length ≤ 1000000) (hr : ∀ x ∈ X, 0 ≤ x.r ∧ x.r ≤ 1000) :
    Calls Tryd.prog 43 #[.pointer (some ⟨cb, 0, none⟩), .slice aX X.length cX] w (CP w cb k (C ++ X) (Em.rg R X)) := by
  obtain ⟨av, cv, rfl, -, -⟩ := h.own.form
  have HX := hide hX
  have HOK := hide hok
  have HR := hide hr
  have HO := hide h
  obtain ⟨n, hn⟩ : ∃ n, n = X.length := ⟨_, rfl⟩
  obtain ⟨RR, hRR⟩ : ∃ RR, RR = Em.rg R X := ⟨_, rfl⟩
  rw [← hn, ← hRR]
  have HN := hide hn
  have HLEN := hide hlen
  have HRR := hide (show RR = Em.rg R (X.drop 0) by rw [List.drop_zero]; exact hRR)
  have ycb := lt_of h.m
  have hnb : n ≤ 1000000 := by omega
  have k0 := h.m
  clear h hX hok hlen hr hn hRR
  go_enter Tryd.func43, Tryd.ntmps43
  go_wp2_with fail
  go_loopg [8] n (fun kz v8 wr => ∃ (i : Nat) (R' : Int), i ≤ n ∧ kz = n - i ∧ v8 = .int .i64 (i : Nat) ∧ Hid (RR = Em.rg R' (X.drop i)) ∧ Hid (wr.heap[cb]? = some (.cells #[.slice av C.length cv, .int .i64 R'] 64 (0, 0))) ∧ Aside [cb] w.heap.size w wr)
  case atStart => exact ⟨0, R, Nat.zero_le _, rfl, rfl, HRR, hide k0, Aside.refl _⟩
  case round =>
    clear HRR k0
    obtain ⟨i, R', hi, rfl, rfl, H, HK, abr⟩ := hrel
    by_cases hlt : i < n
    case neg =>
      have hin : i = n := by omega
      subst hin
      have hRR : RR = R' := by rw [H.out, List.drop_of_length_le (by have := HN.out; omega)]; rfl
      subst hRR
      have hown := HO.out.own.past abr (fun i hi => by simpa using hi.2)
      have hx2 := HX.out.past abr (fun i hi => by simpa using (HOK.out i hi).1)
      obtain ⟨v', w', h1, h2, h3, h4⟩ := run_joinO kIn 29 29 Tryd.underlying29 hown hx2 (fun j hj hh => (HOK.out j hh).2 ((hown.lt j hj).1.1)) (by show (C.length + X.length) * 48 ≤ _; have := HLEN.out; omega) (by have := HLEN.out; unfold maxLen; omega)
      obtain ⟨kk, hkk, hkn, hkl⟩ : ∃ kk, (∀ j, v'.ownBlock = some j → j = kk ∧ j ≠ cb) ∧ (kk = k ∨ wr.heap.size ≤ kk) ∧ kk < w'.heap.size := by
        have h2' := h2
        rcases h4 with h4 | ⟨q, hq, hq2⟩
        · exact ⟨k, fun j hj => (hown.lt j (h4 ▸ hj)).1, .inl rfl, Nat.lt_of_lt_of_le HO.out.lt (Nat.le_trans abr.size h3.size)⟩
        · exact ⟨q, fun j hj => by rw [hq] at hj; injection hj with hj; have := lt_of HK.out; omega, .inr hq2, (h2'.lt q hq).2⟩
      have h5 : OwnC cb kk w' v' (C ++ X) := ownX_plainE h2 hkk (fun _ _ _ _ _ h => h)
      have kb : w'.heap[cb]? = some (.cells #[.slice av C.length cv, .int .i64 RR] 64 (0, 0)) := (h3.block cb (lt_of HK.out) (fun e => (hown.lt cb e.symm).1.2 rfl)).trans HK.out
      have aw : Aside [cb, k] w.heap.size w w' := (abr.wide (S' := [cb, k]) (fun j _ hj => by simp at hj ⊢; exact hj.1)).trans (⟨h3.os, h3.tape, h3.output, h3.size, fun j hj hs => h3.block j hj (fun e => hs (by rw [(hown.lt j e.symm).1.1]; simp))⟩ : Aside [cb, k] wr.heap.size wr w') abr.size
      have hkn2 : kk = k ∨ w.heap.size ≤ kk := hkn.imp id (fun h => Nat.le_trans abr.size h)
      obtain ⟨a5, c5, rfl, -, -⟩ := h2.form
      obtain ⟨ln, hln⟩ : ∃ ln, ln = (C ++ X).length := ⟨_, rfl⟩
      rw [← hln] at h1 h5
      clear hln
      have H5 := hide h5
      have KB := hide kb
      have AW := hide aw
      have c0 := cell_of HK.out 0
      have c1 := cell_of HK.out 1
      have d0 := cell_of kb 0
      have dd := free_of kb 0
      simp at c0 c1 d0
      have HKL := hide hkl
      have HK2 := hide hkn2
      have HLX := HN.out
      rw [← HLX] at h1
      clear h2 h3 h4 hkk hkn h5 kb aw hown hx2 hkl hkn2 H HK abr HLX
      go_wp2_with (at_builtin; refine wpList_joinO rfl _ _ 29 rfl _ _ _ (by rfl) (by rfl) h1 ?_; clear h1)
      have KS := set_in KB.out 0 (.slice a5 ln c5)
      simp at KS
      have AS := AW.out.trans (Aside.setCell (B := w.heap.size) (S := [cb, k]) (p := ⟨cb, 0, none⟩) (by simp) (.slice a5 ln c5)) (Nat.le_refl _)
      exact bodyPost_end (v := .tuple #[]) (by simp [results, Tryd.results43]) rfl ⟨rfl, ⟨kk, .slice a5 ln c5, ⟨KS, H5.out.set (p := ⟨cb, 0, none⟩) (fun e => e.2 rfl) _, by simpa [World.setCell] using HKL.out⟩, HK2.out⟩, AS⟩
    case pos =>
      have hil : i < X.length := by have := HN.out; omega
      have hR1 := H.out
      rw [List.drop_eq_getElem_cons hil] at hR1
      obtain ⟨ao', cap', eqs, -, -, hat2⟩ := (HX.out.past abr (fun i hi => by simpa using (HOK.out i hi).1)).at
      injection eqs with q1 q2 q3
      subst q1
      obtain ⟨bb, oo, rfl, hb, ⟨e0, e1, e2, e3, e4, e5⟩⟩ := hat2 i hil
      obtain ⟨y, hy⟩ : ∃ y, y = X[i] := ⟨_, rfl⟩
      have hry := HR.out y (by rw [hy]; exact List.getElem_mem hil)
      rw [← hy] at e0 e1 e2 e3 e4 e5 hR1
      obtain ⟨op, kk, rr, aa, bq, nn⟩ := y
      dsimp only at e0 e1 e2 e3 e4 e5 hry
      have HR1 := hide (show RR = Em.rg (max R' (rr + 1)) (X.drop (i + 1)) from hR1)
      have b4 : Below wr.heap.size wr (wr.alloc (.cells #[.int .i64 op, .int .i64 kk, .int .i64 rr, .int .i64 aa, .int .i64 bq, .int .i64 nn] 72 (0, 0))) := (Below.refl _ _).alloc (Nat.le_refl _) _
      have k4 := heap_new wr (.cells #[.int .i64 op, .int .i64 kk, .int .i64 rr, .int .i64 aa, .int .i64 bq, .int .i64 nn] 72 (0, 0))
      have kb4 := (b4.block _ (lt_of HK.out)).trans HK.out
      have ybr := lt_of HK.out
      clear hat2 q2 q3 hy hR1 H
      go_upto_region 3 with fail
      generalize wr.alloc (.cells #[.int .i64 op, .int .i64 kk, .int .i64 rr, .int .i64 aa, .int .i64 bq, .int .i64 nn] 72 (0, 0)) = w4 at b4 k4 kb4 ⊢
      clear HK e0 e1 e2 e3 e4 e5
      have i2 := cell_of k4 2
      have c1 := cell_of kb4 1
      have f1 := free_of kb4 1
      have y4 := lt_of k4
      have yb4 := lt_of kb4
      simp at i2 c1
      have hne4 : cb ≠ wr.heap.size := by omega
      have HM := hide kb4
      clear k4 kb4
      refine wp_region_late (fun w' => Aside [] w4.heap.size w4 w') (fun i => i == 11) (by kernel_rfl) ?_
      have hH0 : Aside [] w4.heap.size w4 w4.drew := (Aside.refl _).drew
      generalize w4.drew = wd0 at hH0 ⊢
      refine' wpAnyL_take (i := 0) (oi := ⟨some 12, _, _, _, _, _⟩) (v := _) rfl (by kernel_rfl) (by kernel_rfl) (by kernel_rfl) (by kernel_rfl) (fun _ _ _ h => h) hH0 (by rfl) ?hyv ?onw
      case hyv =>
        intro wz hSw
        go_simp
        try rfl
      case onw =>
        try simp only [Act.put, List.setIfInBounds_toArray, List.set_cons_zero, List.set_cons_succ]
        refine' wpAnyL_take (i := 1) (oi := ⟨some 13, _, _, _, _, _⟩) (v := _) rfl (by kernel_rfl) (by kernel_rfl) (by kernel_rfl) (by kernel_rfl) (fun _ _ _ h => h) hH0 (by rfl) ?hyv ?onw
        case hyv =>
          intro wz hSw
          go_simp
          try rfl
        case onw =>
          try simp only [Act.put, List.setIfInBounds_toArray, List.set_cons_zero, List.set_cons_succ]
          refine' wpAnyL_take (i := 2) (oi := ⟨some 14, _, _, _, _, _⟩) (v := _) rfl (by kernel_rfl) (by kernel_rfl) (by kernel_rfl) (by kernel_rfl) (fun _ _ _ h => h) hH0 (by rfl) ?hyv ?onw
          case hyv =>
            intro wz hSw
            go_simp
            try rfl
          case onw =>
            try simp only [Act.put, List.setIfInBounds_toArray, List.set_cons_zero, List.set_cons_succ]
            refine' wpAnyL_take (i := 3) (oi := ⟨some 15, _, _, _, _, _⟩) (v := _) rfl (by kernel_rfl) (by kernel_rfl) (by kernel_rfl) (by kernel_rfl) (fun _ _ _ h => h) hH0 (by rfl) ?hyv ?onw
            case hyv =>
              intro wz hSw
              go_simp
              try rfl
            case onw =>
              try simp only [Act.put, List.setIfInBounds_toArray, List.set_cons_zero, List.set_cons_succ]
              refine' wpAnyL_take (i := 4) (oi := ⟨some 16, _, _, _, _, _⟩) (v := _) rfl (by kernel_rfl) (by kernel_rfl) (by kernel_rfl) (by kernel_rfl) (fun _ _ _ h => h) hH0 (by rfl) ?hyv ?onw
              case hyv =>
                intro wz hSw
                have zc0 := (aside_cell hSw (p := ⟨cb, 1, none⟩) yb4 (by simp)).trans c1
                have zc1 := (aside_cell hSw (p := ⟨wr.heap.size, 2, none⟩) y4 (by simp)).trans i2
                go_simp
                try rfl
              case onw =>
                try simp only [Act.put, List.setIfInBounds_toArray, List.set_cons_zero, List.set_cons_succ]
                refine' wpAnyL_take (i := 5) (oi := ⟨some 17, _, _, _, _, _⟩) (v := _) rfl (by kernel_rfl) (by kernel_rfl) (by kernel_rfl) (by kernel_rfl) (fun _ _ _ h => h) hH0 (by rfl) ?hyv ?onw
                case hyv =>
                  intro wz hSw
                  go_simp
                  try rfl
                case onw =>
                  try simp only [Act.put, List.setIfInBounds_toArray, List.set_cons_zero, List.set_cons_succ]
                  refine' wpAnyL_take (i := 6) (oi := ⟨some 18, _, _, _, _, _⟩) (v := _) rfl (by kernel_rfl) (by kernel_rfl) (by kernel_rfl) (by kernel_rfl) (fun _ _ _ h => h) hH0 (by rfl) ?hyv ?onw
                  case hyv =>
                    intro wz hSw
                    have zc0 := (aside_cell hSw (p := ⟨cb, 1, none⟩) yb4 (by simp)).trans c1
                    have zc1 := (aside_cell hSw (p := ⟨wr.heap.size, 2, none⟩) y4 (by simp)).trans i2
                    go_simp
                    try rfl
                  case onw =>
                    try simp only [Act.put, List.setIfInBounds_toArray, List.set_cons_zero, List.set_cons_succ]
                    refine' wpAnyL_take (i := 7) (oi := ⟨some 19, _, _, _, _, _⟩) (v := _) rfl (by kernel_rfl) (by kernel_rfl) (by kernel_rfl) (by kernel_rfl) (fun _ _ _ h => h) hH0 (by rfl) ?hyv ?onw
                    case hyv =>
                      intro wz hSw
                      go_simp
                      try rfl
                    case onw =>
                      try simp only [Act.put, List.setIfInBounds_toArray, List.set_cons_zero, List.set_cons_succ]
                      refine' wpAnyL_take (i := 8) (oi := ⟨some 20, _, _, _, _, _⟩) (v := .int .i64 (max R' (rr + 1))) rfl (by kernel_rfl) (by kernel_rfl) (by kernel_rfl) (by kernel_rfl) (fun _ _ _ h => h) hH0 (by rfl) ?hyv ?onw
                      case hyv =>
                        intro wz hSw
                        go_simp
                        go_simp
                        rw [i64_in _ (by omega)]
                      case onw =>
                        try simp only [Act.put, List.setIfInBounds_toArray, List.set_cons_zero, List.set_cons_succ]
                        refine wpAnyL_one (i := 9) (o := _) rfl (by kernel_rfl) (by rfl) (fun K hK => ?_)
                        go_simp
                        refine hK.out _ _ (fun _ => hH0) ?_
                        clear hK K
                        try simp only [Act.put, List.setIfInBounds_toArray, List.set_cons_zero, List.set_cons_succ]
                        have hH1 := hH0
                        rename World => wd1
                        refine' wpAnyL_take (i := 10) (oi := ⟨some 22, _, _, _, _, _⟩) (v := _) rfl (by kernel_rfl) (by kernel_rfl) (by kernel_rfl) (by kernel_rfl) (fun _ _ _ h => h) hH1 (by rfl) ?hyv ?onw
                        case hyv =>
                          intro wz hSw
                          go_simp
                          try rfl
                        case onw =>
                          try simp only [Act.put, List.setIfInBounds_toArray, List.set_cons_zero, List.set_cons_succ]
                          refine wpAnyL_one (i := 11) (o := _) rfl (by kernel_rfl) (by rfl) (fun K hK => ?_)
                          have kX := (hH1.block _ yb4 (by simp)).trans HM.out
                          have st1 := cell_of kX 1
                          have fr1 := free_of kX 1
                          simp at st1
                          have KX := set_in kX 1 (.int .i64 (max R' (rr + 1)))
                          simp at KX
                          go_simp
                          have hH2 : Aside [cb] w4.heap.size w4 (wd1.setCell ⟨cb, 1, none⟩ (.int .i64 (max R' (rr + 1)))) := (hH1.wide (fun _ _ _ h => by cases h)).trans (Aside.setCell (B := wd1.heap.size) (by simp) _) hH1.size
                          refine hK.out _ _ (fun h => absurd h (by decide)) ?_
                          clear hK K st1 fr1 kX
                          try simp only [Act.put, List.setIfInBounds_toArray, List.set_cons_zero, List.set_cons_succ]
                          generalize wd1.setCell ⟨cb, 1, none⟩ (.int .i64 (max R' (rr + 1))) = wd2 at hH2 KX ⊢
                          refine wpAnyL_done (by kernel_rfl) ?_ _
                          go_wp2_with fail
                          go_roundg (n - (i + 1))
                          case measure => omega
                          case rel => exact ⟨i + 1, max R' (rr + 1), by omega, rfl, by go_num, HR1, hide KX, (abr.trans (aside (S := [cb]) b4) abr.size).trans hH2 (Nat.le_trans abr.size b4.size)⟩
end Go.Proofs.YtbiomnnlpafciaaDoor
