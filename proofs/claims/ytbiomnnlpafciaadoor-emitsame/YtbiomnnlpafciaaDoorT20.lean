import Derived.Test.YtbiomnnlpafciaaDoorT19
import Derived.WalkKit
import Derived.WalkSpells
import Derived.IntWalk
import Derived.Deep.Cut
import Derived.Deep.LoopGhost
import Derived.Laws.Cover1
import Derived.Lib.Hide
set_option linter.unusedVariables false
set_option linter.unusedSimpArgs false
set_option maxHeartbeats 64000000
set_option maxRecDepth 100000
namespace Go.Proofs.YtbiomnnlpafciaaDoor
open Go.RowKit Go.IntWalk
set_option linter.unusedVariables false
set_option linter.unusedSimpArgs false
theorem ownX_plainE {α : Type} {T : Kind α} {ok ok' : Nat → Prop} {w : World} {v : Value} {l : List α} (h : OwnX T ok w v l) (hk : ∀ j, v.ownBlock = some j → ok' j) (hE : ∀ ok ok' w cs a, T.E ok w cs a → T.E ok' w cs a) : OwnX T ok' w v l := by
  obtain ⟨D, h1, h2, h3⟩ := h
  exact ⟨D, h1, hk, fun j hj => hE _ _ _ _ _ (h3 j hj)⟩
theorem HIns.past {okr : Nat → Prop} {w w' : World} {v : Value} {l : List Cd.In} (h : HIns okr w v l) {S : List Nat} (a : Aside S w.heap.size w w') (hok : ∀ i, okr i → i ∉ S) : HIns okr w' v l := h.keep a.size fun i hi hl => a.block i hl (hok i hi)
set_option maxHeartbeats 16000000 in
theorem add43_any {w : World} {cb k : Nat} {v : Value} {C X : List Cd.In} {R : Int} {okr : Nat → Prop} {aX : Option Addr} {cX : Nat} (h : CO w cb k v C R) (hX : HIns okr w (.slice aX X.length cX) X) (hok : ∀ i, okr i → i ≠ cb ∧ i ≠ k) (hlen : C.length + X.length ≤ 1000000) (hr : ∀ x ∈ X, 0 ≤ x.r ∧ x.r ≤ 1000) :
    Calls Tryd.prog 43 #[.pointer (some ⟨cb, 0, none⟩), .slice aX X.length cX] w (CP w cb k (C ++ X) (Em.rg R X)) := by
  obtain ⟨av, cv, rfl, -, -⟩ := h.own.form
  have HX := hide hX
  have HOK := hide hok
  have HR := hide hr
  have HO := hide h
  obtain ⟨n, hn⟩ : ∃ n, n = X.length := ⟨_, rfl⟩
  obtain ⟨RR, hRR⟩ : ∃ RR, RR = Em.rg R X := ⟨_, rfl⟩
  rw [← hn, ← hRR]
  have HN := hide hn
  have HLEN := hide hlen
  have HRR := hide (show RR = Em.rg R (X.drop 0) by rw [List.drop_zero]; exact hRR)
  have ycb := lt_of h.m
  have hnb : n ≤ 1000000 := by omega
  have k0 := h.m
  clear h hX hok hlen hr hn hRR
  go_enter Tryd.func43, Tryd.ntmps43
  go_wp2_with fail
  go_loopg [8] n (fun kz v8 wr => ∃ (i : Nat) (R' : Int), i ≤ n ∧ kz = n - i ∧ v8 = .int .i64 (i : Nat) ∧ Hid (RR = Em.rg R' (X.drop i)) ∧ Hid (wr.heap[cb]? = some (.cells #[.slice av C.length cv, .int .i64 R'] 64 (0, 0))) ∧ Aside [cb] w.heap.size w wr)
  case atStart => exact ⟨0, R, Nat.zero_le _, rfl, rfl, HRR, hide k0, Aside.refl _⟩
  case round =>
    clear HRR k0
    obtain ⟨i, R', hi, rfl, rfl, H, HK, abr⟩ := hrel
    by_cases hlt : i < n
    case neg =>
      have hin : i = n := by omega
      subst hin
      have hRR : RR = R' := by rw [H.out, List.drop_of_length_le (by have := HN.out; omega)]; rfl
      subst hRR
      have hown := HO.out.own.past abr (fun i hi => by simpa using hi.2)
      have hx2 := HX.out.past abr (fun i hi => by simpa using (HOK.out i hi).1)
      obtain ⟨v', w', h1, h2, h3, h4⟩ := run_joinO kIn 29 29 Tryd.underlying29 hown hx2 (fun j hj hh => (HOK.out j hh).2 ((hown.lt j hj).1.1)) (by show (C.length + X.length) * 48 ≤ _; have := HLEN.out; omega) (by have := HLEN.out; unfold maxLen; omega)
      obtain ⟨kk, hkk, hkn, hkl⟩ : ∃ kk, (∀ j, v'.ownBlock = some j → j = kk ∧ j ≠ cb) ∧ (kk = k ∨ wr.heap.size ≤ kk) ∧ kk < w'.heap.size := by
        have h2' := h2
        rcases h4 with h4 | ⟨q, hq, hq2⟩
        · exact ⟨k, fun j hj => (hown.lt j (h4 ▸ hj)).1, .inl rfl, Nat.lt_of_lt_of_le HO.out.lt (Nat.le_trans abr.size h3.size)⟩
        · exact ⟨q, fun j hj => by rw [hq] at hj; injection hj with hj; have := lt_of HK.out; omega, .inr hq2, (h2'.lt q hq).2⟩
      have h5 : OwnC cb kk w' v' (C ++ X) := ownX_plainE h2 hkk (fun _ _ _ _ _ h => h)
      have kb : w'.heap[cb]? = some (.cells #[.slice av C.length cv, .int .i64 RR] 64 (0, 0)) := (h3.block cb (lt_of HK.out) (fun e => (hown.lt cb e.symm).1.2 rfl)).trans HK.out
      have aw : Aside [cb, k] w.heap.size w w' := (abr.wide (S' := [cb, k]) (fun j _ hj => by simp at hj ⊢; exact hj.1)).trans (⟨h3.os, h3.tape, h3.output, h3.size, fun j hj hs => h3.block j hj (fun e => hs (by rw [(hown.lt j e.symm).1.1]; simp))⟩ : Aside [cb, k] wr.heap.size wr w') abr.size
      have hkn2 : kk = k ∨ w.heap.size ≤ kk := hkn.imp id (fun h => Nat.le_trans abr.size h)
      obtain ⟨a5, c5, rfl, -, -⟩ := h2.form
      obtain ⟨ln, hln⟩ : ∃ ln, ln = (C ++ X).length := ⟨_, rfl⟩
      rw [← hln] at h1 h5
      clear hln
      have H5 := hide h5
      have KB := hide kb
      have AW := hide aw
      have c0 := cell_of HK.out 0
      have c1 := cell_of HK.out 1
      have d0 := cell_of kb 0
      have dd := free_of kb 0
      simp at c0 c1 d0
      have HKL := hide hkl
      have HK2 := hide hkn2
      have HLX := HN.out
      rw [← HLX] at h1
      clear h2 h3 h4 hkk hkn h5 kb aw hown hx2 hkl hkn2 H HK abr HLX
      go_wp2_with (at_builtin; refine wpList_joinO rfl _ _ 29 rfl _ _ _ (by rfl) (by rfl) h1 ?_; clear h1)
      have KS := set_in KB.out 0 (.slice a5 ln c5)
      simp at KS
      have AS := AW.out.trans (Aside.setCell (B := w.heap.size) (S := [cb, k]) (p := ⟨cb, 0, none⟩) (by simp) (.slice a5 ln c5)) (Nat.le_refl _)
      exact bodyPost_end (v := .tuple #[]) (by simp [results, Tryd.results43]) rfl ⟨rfl, ⟨kk, .slice a5 ln c5, ⟨KS, H5.out.set (p := ⟨cb, 0, none⟩) (fun e => e.2 rfl) _, by simpa [World.setCell] using HKL.out⟩, HK2.out⟩, AS⟩
    case pos =>
      have hil : i < X.length := by have := HN.out; omega
      have hR1 := H.out
      rw [List.drop_eq_getElem_cons hil] at hR1
      obtain ⟨ao', cap', eqs, -, -, hat2⟩ := (HX.out.past abr (fun i hi => by simpa using (HOK.out i hi).1)).at
      injection eqs with q1 q2 q3
      subst q1
      obtain ⟨bb, oo, rfl, hb, ⟨e0, e1, e2, e3, e4, e5⟩⟩ := hat2 i hil
      obtain ⟨y, hy⟩ : ∃ y, y = X[i] := ⟨_, rfl⟩
      have hry := HR.out y (by rw [hy]; exact List.getElem_mem hil)
      rw [← hy] at e0 e1 e2 e3 e4 e5 hR1
      obtain ⟨op, kk, rr, aa, bq, nn⟩ := y
      dsimp only at e0 e1 e2 e3 e4 e5 hry
      have HR1 := hide (show RR = Em.rg (max R' (rr + 1)) (X.drop (i + 1)) from hR1)
      have b4 : Below wr.heap.size wr (wr.alloc (.cells #[.int .i64 op, .int .i64 kk, .int .i64 rr, .int .i64 aa, .int .i64 bq, .int .i64 nn] 72 (0, 0))) := (Below.refl _ _).alloc (Nat.le_refl _) _
      have k4 := heap_new wr (.cells #[.int .i64 op, .int .i64 kk, .int .i64 rr, .int .i64 aa, .int .i64 bq, .int .i64 nn] 72 (0, 0))
      have kb4 := (b4.block _ (lt_of HK.out)).trans HK.out
      have ybr := lt_of HK.out
      clear hat2 q2 q3 hy hR1 H
      go_upto_region 3 with fail
      generalize wr.alloc (.cells #[.int .i64 op, .int .i64 kk, .int .i64 rr, .int .i64 aa, .int .i64 bq, .int .i64 nn] 72 (0, 0)) = w4 at b4 k4 kb4 ⊢
      clear HK e0 e1 e2 e3 e4 e5
      have i2 := cell_of k4 2
      have c1 := cell_of kb4 1
      have f1 := free_of kb4 1
      have y4 := lt_of k4
      have yb4 := lt_of kb4
      simp at i2 c1
      have hne4 : cb ≠ wr.heap.size := by omega
      have HM := hide kb4
      clear k4 kb4
      refine wp_region_late (fun w' => Aside [] w4.heap.size w4 w') (fun i => i == 11) (by kernel_rfl) ?_
      have hH0 : Aside [] w4.heap.size w4 w4.drew := (Aside.refl _).drew
      generalize w4.drew = wd0 at hH0 ⊢
      refine' wpAnyL_take (i := 0) (oi := ⟨some 12, _, _, _, _, _⟩) (v := _) rfl (by kernel_rfl) (by kernel_rfl) (by kernel_rfl) (by kernel_rfl) (fun _ _ _ h => h) hH0 (by rfl) ?hyv ?onw
      case hyv =>
        intro wz hSw
        go_simp
        try rfl
      case onw =>
        try simp only [Act.put, List.setIfInBounds_toArray, List.set_cons_zero, List.set_cons_succ]
        refine' wpAnyL_take (i := 1) (oi := ⟨some 13, _, _, _, _, _⟩) (v := _) rfl (by kernel_rfl) (by kernel_rfl) (by kernel_rfl) (by kernel_rfl) (fun _ _ _ h => h) hH0 (by rfl) ?hyv ?onw
        case hyv =>
          intro wz hSw
          go_simp
          try rfl
        case onw =>
          try simp only [Act.put, List.setIfInBounds_toArray, List.set_cons_zero, List.set_cons_succ]
          refine' wpAnyL_take (i := 2) (oi := ⟨some 14, _, _, _, _, _⟩) (v := _) rfl (by kernel_rfl) (by kernel_rfl) (by kernel_rfl) (by kernel_rfl) (fun _ _ _ h => h) hH0 (by rfl) ?hyv ?onw
          case hyv =>
            intro wz hSw
            go_simp
            try rfl
          case onw =>
            try simp only [Act.put, List.setIfInBounds_toArray, List.set_cons_zero, List.set_cons_succ]
            refine' wpAnyL_take (i := 3) (oi := ⟨some 15, _, _, _, _, _⟩) (v := _) rfl (by kernel_rfl) (by kernel_rfl) (by kernel_rfl) (by kernel_rfl) (fun _ _ _ h => h) hH0 (by rfl) ?hyv ?onw
            case hyv =>
              intro wz hSw
              go_simp
              try rfl
            case onw =>
              try simp only [Act.put, List.setIfInBounds_toArray, List.set_cons_zero, List.set_cons_succ]
              refine' wpAnyL_take (i := 4) (oi := ⟨some 16, _, _, _, _, _⟩) (v := _) rfl (by kernel_rfl) (by kernel_rfl) (by kernel_rfl) (by kernel_rfl) (fun _ _ _ h => h) hH0 (by rfl) ?hyv ?onw
              case hyv =>
                intro wz hSw
                have zc0 := (aside_cell hSw (p := ⟨cb, 1, none⟩) yb4 (by simp)).trans c1
                have zc1 := (aside_cell hSw (p := ⟨wr.heap.size, 2, none⟩) y4 (by simp)).trans i2
                go_simp
                try rfl
              case onw =>
                try simp only [Act.put, List.setIfInBounds_toArray, List.set_cons_zero, List.set_cons_succ]
                refine' wpAnyL_take (i := 5) (oi := ⟨some 17, _, _, _, _, _⟩) (v := _) rfl (by kernel_rfl) (by kernel_rfl) (by kernel_rfl) (by kernel_rfl) (fun _ _ _ h => h) hH0 (by rfl) ?hyv ?onw
                case hyv =>
                  intro wz hSw
                  go_simp
                  try rfl
                case onw =>
                  try simp only [Act.put, List.setIfInBounds_toArray, List.set_cons_zero, List.set_cons_succ]
                  refine' wpAnyL_take (i := 6) (oi := ⟨some 18, _, _, _, _, _⟩) (v := _) rfl (by kernel_rfl) (by kernel_rfl) (by kernel_rfl) (by kernel_rfl) (fun _ _ _ h => h) hH0 (by rfl) ?hyv ?onw
                  case hyv =>
                    intro wz hSw
                    have zc0 := (aside_cell hSw (p := ⟨cb, 1, none⟩) yb4 (by simp)).trans c1
                    have zc1 := (aside_cell hSw (p := ⟨wr.heap.size, 2, none⟩) y4 (by simp)).trans i2
                    go_simp
                    try rfl
                  case onw =>
                    try simp only [Act.put, List.setIfInBounds_toArray, List.set_cons_zero, List.set_cons_succ]
                    refine' wpAnyL_take (i := 7) (oi := ⟨some 19, _, _, _, _, _⟩) (v := _) rfl (by kernel_rfl) (by kernel_rfl) (by kernel_rfl) (by kernel_rfl) (fun _ _ _ h => h) hH0 (by rfl) ?hyv ?onw
                    case hyv =>
                      intro wz hSw
                      go_simp
                      try rfl
                    case onw =>
                      try simp only [Act.put, List.setIfInBounds_toArray, List.set_cons_zero, List.set_cons_succ]
                      refine' wpAnyL_take (i := 8) (oi := ⟨some 20, _, _, _, _, _⟩) (v := .int .i64 (max R' (rr + 1))) rfl (by kernel_rfl) (by kernel_rfl) (by kernel_rfl) (by kernel_rfl) (fun _ _ _ h => h) hH0 (by rfl) ?hyv ?onw
                      case hyv =>
                        intro wz hSw
                        go_simp
                        go_simp
                        rw [i64_in _ (by omega)]
                      case onw =>
                        try simp only [Act.put, List.setIfInBounds_toArray, List.set_cons_zero, List.set_cons_succ]
                        refine wpAnyL_one (i := 9) (o := _) rfl (by kernel_rfl) (by rfl) (fun K hK => ?_)
                        go_simp
                        refine hK.out _ _ (fun _ => hH0) ?_
                        clear hK K
                        try simp only [Act.put, List.setIfInBounds_toArray, List.set_cons_zero, List.set_cons_succ]
                        have hH1 := hH0
                        rename World => wd1
                        refine' wpAnyL_take (i := 10) (oi := ⟨some 22, _, _, _, _, _⟩) (v := _) rfl (by kernel_rfl) (by kernel_rfl) (by kernel_rfl) (by kernel_rfl) (fun _ _ _ h => h) hH1 (by rfl) ?hyv ?onw
                        case hyv =>
                          intro wz hSw
                          go_simp
                          try rfl
                        case onw =>
                          try simp only [Act.put, List.setIfInBounds_toArray, List.set_cons_zero, List.set_cons_succ]
                          refine wpAnyL_one (i := 11) (o := _) rfl (by kernel_rfl) (by rfl) (fun K hK => ?_)
                          have kX := (hH1.block _ yb4 (by simp)).trans HM.out
                          have st1 := cell_of kX 1
                          have fr1 := free_of kX 1
                          simp at st1
                          have KX := set_in kX 1 (.int .i64 (max R' (rr + 1)))
                          simp at KX
                          go_simp
                          have hH2 : Aside [cb] w4.heap.size w4 (wd1.setCell ⟨cb, 1, none⟩ (.int .i64 (max R' (rr + 1)))) := (hH1.wide (fun _ _ _ h => by cases h)).trans (Aside.setCell (B := wd1.heap.size) (by simp) _) hH1.size
                          refine hK.out _ _ (fun h => absurd h (by decide)) ?_
                          clear hK K st1 fr1 kX
                          try simp only [Act.put, List.setIfInBounds_toArray, List.set_cons_zero, List.set_cons_succ]
                          generalize wd1.setCell ⟨cb, 1, none⟩ (.int .i64 (max R' (rr + 1))) = wd2 at hH2 KX ⊢
                          refine wpAnyL_done (by kernel_rfl) ?_ _
                          go_wp2_with fail
                          go_roundg (n - (i + 1))
                          case measure => omega
                          case rel => exact ⟨i + 1, max R' (rr + 1), by omega, rfl, by go_num, HR1, hide KX, (abr.trans (aside (S := [cb]) b4) abr.size).trans hH2 (Nat.le_trans abr.size b4.size)⟩
end Go.Proofs.YtbiomnnlpafciaaDoor
namespace Go.Proofs.YtbiomnnlpafciaaDoor
open Go.RowKit Go.IntWalk
set_option linter.unusedVariables false
set_option linter.unusedSimpArgs false
theorem hasTooMuch23_any {w : World} {cb k : Nat} {v : Value} {C : List Cd.In} {R : Int} (h : CO w cb k v C R) : Calls Tryd.prog 23 #[.pointer (some ⟨cb, 0, none⟩)] w fun e w' => e = .returned (.bool (decide (200000 < (C.length : Int)) || decide (40 < R))) ∧ w' = w := by
  obtain ⟨av, cv, rfl, -, -⟩ := h.own.form
  have c0 := cell_of h.m 0
  have c1 := cell_of h.m 1
  simp at c0 c1
  generalize C.length = ln at c0 ⊢
  clear h
  by_cases h1 : 200000 < (ln : Int)
  · rw [decide_eq_true h1, Bool.true_or]
    go_enter Tryd.func23, Tryd.ntmps23
    go_wp2
    go_ret
    exact ⟨rfl, rfl⟩
  · rw [decide_eq_false h1, Bool.false_or]
    go_enter Tryd.func23, Tryd.ntmps23
    go_wp2
    go_ret
    exact ⟨rfl, rfl⟩
/-- the eleven instructions at a place -/
def atI (r n v : Int) : List Cd.In := [⟨1, 0, r, 0, 0, 0⟩, ⟨7, 8, r + 1, r - 2, r, 0⟩, ⟨6, 14, r + 1, r + 1, 0, 0⟩, ⟨1, 0, r + 2, 0, 0, n⟩, ⟨7, 8, r + 2, r - 2, r + 2, 0⟩, ⟨7, 10, r + 1, r + 1, r + 2, 0⟩, ⟨9, 0, r + 2, r + 1, 0, 0⟩, ⟨8, 0, r + 2, r - 2, r, 0⟩, ⟨3, 0, r + 2, r + 2, n, v⟩, ⟨8, 0, r + 1, r + 2, r - 1, 0⟩, ⟨9, 0, r - 2, r + 1, 0, 0⟩]
def cellsI (l : List Cd.In) : List Value := l.flatMap Cd.In.cs
theorem cellsI_at : ∀ (l : List Cd.In) (i j : Nat) (hi : i < l.length) (hj : j < 6), (cellsI l)[i * 6 + j]? = (l[i]).cs[j]?
  | [], i, j, hi, hj => by simp at hi
  | x :: l, 0, j, hi, hj => by
    show (x.cs ++ cellsI l)[0 * 6 + j]? = _
    rw [List.getElem?_append_left (by show 0 * 6 + j < 6; omega)]
    simp
  | x :: l, i + 1, j, hi, hj => by
    show (x.cs ++ cellsI l)[(i + 1) * 6 + j]? = _
    rw [List.getElem?_append_right (by show 6 ≤ _; omega), show (i + 1) * 6 + j - x.cs.length = i * 6 + j by show _ - 6 = _; omega]
    exact cellsI_at l i j (by simpa using hi) hj
theorem row_of {ok : Nat → Prop} {w : World} {b : Nat} {l : List Cd.In} {cur : Array Value} {ty : TypeId} (k : w.heap[b]? = some (.cells cur ty (0, 0))) (he : cur = (cellsI l).toArray) (hob : ok b) (hl : l.length ≤ 1000) : HIns ok w (.slice (some ⟨b, 0, none⟩) l.length l.length) l :=
  blk_row kIn k (fun i => (l.getD i ⟨0, 0, 0, 0, 0, 0⟩).cs) (fun i hi => ⟨rfl, fun j hj => by
    subst he
    rw [List.getElem?_toArray]
    rw [show l.getD i ⟨0, 0, 0, 0, 0, 0⟩ = l[i] by simp [hi]]
    exact cellsI_at l i j hi hj⟩) (fun i hi => by show _ = _; simp [hi]) hob (by unfold maxLen; omega)
theorem atI_cells (p n v : Int) : (cellsI (atI (p + 2) n v)).toArray = #[.int .i64 1, .int .i64 0, .int .i64 (p + 2), .int .i64 0, .int .i64 0, .int .i64 0, .int .i64 7, .int .i64 8, .int .i64 (p + 3), .int .i64 p, .int .i64 (p + 2), .int .i64 0, .int .i64 6, .int .i64 14, .int .i64 (p + 3), .int .i64 (p + 3), .int .i64 0, .int .i64 0, .int .i64 1, .int .i64 0, .int .i64 (p + 4), .int .i64 0, .int .i64 0, .int .i64 n, .int .i64 7, .int .i64 8, .int .i64 (p + 4), .int .i64 p, .int .i64 (p + 4), .int .i64 0, .int .i64 7, .int .i64 10, .int .i64 (p + 3), .int .i64 (p + 3), .int .i64 (p + 4), .int .i64 0, .int .i64 9, .int .i64 0, .int .i64 (p + 4), .int .i64 (p + 3), .int .i64 0, .int .i64 0, .int .i64 8, .int .i64 0, .int .i64 (p + 4), .int .i64 p, .int .i64 (p + 2), .int .i64 0, .int .i64 3, .int .i64 0, .int .i64 (p + 4), .int .i64 (p + 4), .int .i64 n, .int .i64 v, .int .i64 8, .int .i64 0, .int .i64 (p + 3), .int .i64 (p + 4), .int .i64 (p + 1), .int .i64 0, .int .i64 9, .int .i64 0, .int .i64 p, .int .i64 (p + 3), .int .i64 0, .int .i64 0] := by
  have e1 : p + 2 + 1 = p + 3 := by omega
  have e2 : p + 2 + 2 = p + 4 := by omega
  have e3 : p + 2 - 2 = p := by omega
  have e4 : p + 2 - 1 = p + 1 := by omega
  unfold atI
  rw [e1, e2, e3, e4]
  rfl
set_option maxHeartbeats 16000000 in
theorem cellAtPlace84_any (op k v n p r : Int) (w : World) (hr : 0 ≤ p ∧ p ≤ 1000) (he : r = p + 2) : Calls Tryd.prog 84 #[.agg #[.int .i64 op, .int .i64 k, .int .i64 v, .int .i64 n], .int .i64 p] w fun e w' => ∃ a, e = .returned (.slice (some ⟨a, 0, none⟩) 11 11) ∧ w'.heap[a]? = some (.cells (cellsI (atI r n v)).toArray 72 (0, 0)) ∧ w.heap.size ≤ a ∧ Below w.heap.size w w' := by
  have b1 : Below w.heap.size w (w.alloc (.cells #[.int .i64 op, .int .i64 k, .int .i64 v, .int .i64 n] 59 (0, 0))) := (Below.refl _ _).alloc (Nat.le_refl _) _
  have kP := heap_new w (.cells #[.int .i64 op, .int .i64 k, .int .i64 v, .int .i64 n] 59 (0, 0))
  go_enter Tryd.func84, Tryd.ntmps84
  go_upto_region 1 with fail
  generalize w.alloc (.cells #[.int .i64 op, .int .i64 k, .int .i64 v, .int .i64 n] 59 (0, 0)) = w1 at b1 kP ⊢
  have p2 := cell_of kP 2
  have p3 := cell_of kP 3
  simp at p2 p3
  have h1 : IntKind.i64.wrap (p + 1) = p + 1 := i64_in (p + 1) (by omega)
  have h2 : IntKind.i64.wrap (p + 2) = p + 2 := i64_in (p + 2) (by omega)
  have h3 : IntKind.i64.wrap (p + 3) = p + 3 := i64_in (p + 3) (by omega)
  have h4 : IntKind.i64.wrap (p + 4) = p + 4 := i64_in (p + 4) (by omega)
  go_wp2
  go_ret
  refine ⟨w1.heap.size, rfl, (heap_new _ _).trans ?_, b1.size, b1.alloc b1.size _⟩
  subst he
  rw [atI_cells]
theorem CP.pre {w w2 : World} {cb k : Nat} {C : List Cd.In} {R : Int} {e : Ending} {w' : World} (b : Below w.heap.size w w2) (h : CP w2 cb k C R e w') : CP w cb k C R e w' := by
  obtain ⟨k', v', h1, h2⟩ := h.o
  exact ⟨h.e, ⟨k', v', h1, h2.imp id (fun h => Nat.le_trans b.size h)⟩, (aside b).trans h.a b.size⟩
theorem CP.next {w w1 : World} {cb k k1 : Nat} {C : List Cd.In} {R : Int} {e : Ending} {w' : World} (a : Aside [cb, k] w.heap.size w w1) (hk : k1 = k ∨ w.heap.size ≤ k1) (h : CP w1 cb k1 C R e w') : CP w cb k C R e w' := by
  obtain ⟨k', v', h1, h2⟩ := h.o
  exact ⟨h.e, ⟨k', v', h1, next_own hk h2 a.size⟩, aside_next a hk h.a⟩
/-- one instruction more -/
theorem addOne {w : World} {cb k : Nat} {v : Value} {C : List Cd.In} {R : Int} (h : CO w cb k v C R) (hlen : C.length ≤ 900000) (W : World) (b : Below w.heap.size w W) (op kk r a bb n : Int) (hr : 0 ≤ r ∧ r ≤ 1000) : Calls Tryd.prog 43 #[.pointer (some ⟨cb, 0, none⟩), .slice (some ⟨W.heap.size, 0, none⟩) 1 1] (W.alloc (.cells #[.int .i64 op, .int .i64 kk, .int .i64 r, .int .i64 a, .int .i64 bb, .int .i64 n] 72 (0, 0))) (CP w cb k (C ++ [⟨op, kk, r, a, bb, n⟩]) (Em.rg R [⟨op, kk, r, a, bb, n⟩])) := by
  have b2 := b.alloc b.size (.cells #[.int .i64 op, .int .i64 kk, .int .i64 r, .int .i64 a, .int .i64 bb, .int .i64 n] 72 (0, 0))
  have ycb := lt_of h.m
  have hl := b.size
  have hr2 := one_row (i := ⟨op, kk, r, a, bb, n⟩) (ok := fun i => i = W.heap.size) (heap_new W _) rfl
  have hk := h.lt
  exact (add43_any (X := [⟨op, kk, r, a, bb, n⟩]) (h.under b2) hr2 (fun i hi => by omega) (by simp; omega) (fun x hx => by simp at hx; subst hx; exact hr)).mono fun e w' hh => hh.pre b2
end Go.Proofs.YtbiomnnlpafciaaDoor
