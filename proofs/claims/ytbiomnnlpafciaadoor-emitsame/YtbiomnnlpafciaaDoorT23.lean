import Derived.Test.YtbiomnnlpafciaaDoorT22
import Derived.WalkKit
import Derived.WalkSpells
import Derived.IntWalk
import Derived.Deep.Cut
import Derived.Deep.LoopGhost
import Derived.Laws.Cover1
import Derived.Lib.Hide
set_option linter.unusedVariables false
set_option linter.unusedSimpArgs false
set_option maxHeartbeats 64000000
set_option maxRecDepth 100000
namespace Go.Proofs.YtbiomnnlpafciaaDoor
open Go.RowKit Go.IntWalk
set_option linter.unusedVariables false
set_option linter.unusedSimpArgs false
theorem CO.below {w w' : World} {cb k : Nat} {v : Value} {C : List Cd.In} {R : Int} (h : CO w cb k v C R) (b : Below w.heap.size w w') : CO w' cb k v C R := h.under b
set_option maxHeartbeats 16000000 in
theorem addStep1_any {w : World} {cb k : Nat} {v : Value} {C : List Cd.In} {R : Int} (h : CO w cb k v C R) (hlen : C.length ≤ 400000) (kk n t : Int) {okE : Nat → Prop} {aF aE : Option Addr} {cF cE : Nat} {F E : List Pu} (hF : HPu okE w (.slice aF F.length cF) F) (hE : HPu okE w (.slice aE E.length cE) E) (hok : ∀ i, okE i → i ≠ cb ∧ i ≠ k) {c m : Int} (hf : Lo.Fit c m E) : Calls Tryd.prog 22 #[.pointer (some ⟨cb, 0, none⟩), .agg #[.int .i64 1, .int .i64 kk, .int .i64 n, .int .i64 t, .slice aF F.length cF, .slice aE E.length cE]] w (CP w cb k (C ++ (Em.et E 2 0 ++ [(⟨4, 0, 2, 0, 0, t⟩ : Cd.In)])) (Em.rg R (Em.et E 2 0 ++ [(⟨4, 0, 2, 0, 0, t⟩ : Cd.In)]))) := by
  have b1 : Below w.heap.size w (w.alloc (.cells #[.int .i64 1, .int .i64 kk, .int .i64 n, .int .i64 t, .slice aF F.length cF, .slice aE E.length cE] 62 (0, 0))) := (Below.refl _ _).alloc (Nat.le_refl _) _
  have kS := heap_new w (.cells #[.int .i64 1, .int .i64 kk, .int .i64 n, .int .i64 t, .slice aF F.length cF, .slice aE E.length cE] 62 (0, 0))
  have hcb := lt_of h.m
  have hk := h.lt
  have hl := et_len hf 0
  have HT := hide (fun W (b : Below w.heap.size w W) => addTree42_any (h.under b) (by omega) (hE.under b) hok hf (Int.le_refl 0))
  rw [show C ++ (Em.et E 2 0 ++ [(⟨4, 0, 2, 0, 0, t⟩ : Cd.In)]) = (C ++ Em.et E 2 0) ++ [(⟨4, 0, 2, 0, 0, t⟩ : Cd.In)] by simp, Em.rg_app]
  generalize E.length = ne at HT b1 kS ⊢
  generalize F.length = nf at b1 kS ⊢
  generalize Em.et E 2 0 = Y at HT hl ⊢
  clear h hF hE hok hf
  go_enter Tryd.func22, Tryd.ntmps22
  go_upto_region 1 with fail
  generalize w.alloc (.cells #[.int .i64 1, .int .i64 kk, .int .i64 n, .int .i64 t, .slice aF nf cF, .slice aE ne cE] 62 (0, 0)) = w1 at b1 kS ⊢
  have s0 := cell_of kS 0
  have s1 := cell_of kS 1
  have s2 := cell_of kS 2
  have s3 := cell_of kS 3
  have s4 := cell_of kS 4
  have s5 := cell_of kS 5
  simp at s0 s1 s2 s3 s4 s5
  have yS := lt_of kS
  go_wp2_with fail
  refine (HT.out _ b1).mono ?_
  rintro e w2 h2
  obtain ⟨ee, ⟨k2, v2, o2, hk2⟩, a2⟩ := h2
  have kS2 := (a2.block (w.heap.size) yS (by simp; omega)).trans kS
  have A2 : Aside [cb, k] w.heap.size w w2 := (aside b1).trans a2 b1.size
  have K2 : k2 = k ∨ w.heap.size ≤ k2 := hk2.imp id (fun h => Nat.le_trans b1.size h)
  have HO2 := hide o2
  have s0 := cell_of kS2 0
  have s1 := cell_of kS2 1
  have s2 := cell_of kS2 2
  have s3 := cell_of kS2 3
  have s4 := cell_of kS2 4
  have s5 := cell_of kS2 5
  simp at s0 s1 s2 s3 s4 s5
  clear HT b1 kS o2 a2 hk2 yS kS2
  subst ee
  go_wp2_with fail
  refine (toCell44_any 2 1 kk n t _).mono ?_
  rintro e w3 h3
  obtain ⟨ee, b3⟩ := h3
  clear s0 s1 s2 s3 s4 s5
  subst ee
  go_wp2_with fail
  refine (addOne HO2.out (by simp; omega) _ b3 4 0 2 0 0 t (by omega)).mono ?_
  rintro e w5 h5
  have h6 := CP.next A2 K2 h5
  clear HO2 A2 K2
  have ee := h6.e
  have ho := h6.o
  have ha := h6.a
  clear h5 h6
  subst ee
  go_wp2
  exact bodyPost_end (v := .tuple #[]) (by simp [results, Tryd.results22]) rfl ⟨rfl, ho, ha⟩
set_option maxHeartbeats 16000000 in
theorem addStep2_any {w : World} {cb k : Nat} {v : Value} {C : List Cd.In} {R : Int} (h : CO w cb k v C R) (hlen : C.length ≤ 400000) (kk n t : Int) {okE : Nat → Prop} {aF aE : Option Addr} {cF cE : Nat} {F E : List Pu} (hF : HPu okE w (.slice aF F.length cF) F) (hE : HPu okE w (.slice aE E.length cE) E) (hok : ∀ i, okE i → i ≠ cb ∧ i ≠ k) {c m : Int} (hf : Lo.Fit c m E) (ht : 0 ≤ n) : Calls Tryd.prog 22 #[.pointer (some ⟨cb, 0, none⟩), .agg #[.int .i64 2, .int .i64 kk, .int .i64 n, .int .i64 t, .slice aF F.length cF, .slice aE E.length cE]] w (CP w cb k (C ++ (loopC n E [(⟨5, 0, 2, 0, n, t⟩ : Cd.In)])) (Em.rg R (loopC n E [(⟨5, 0, 2, 0, n, t⟩ : Cd.In)]))) := by
  have b1 : Below w.heap.size w (w.alloc (.cells #[.int .i64 2, .int .i64 kk, .int .i64 n, .int .i64 t, .slice aF F.length cF, .slice aE E.length cE] 62 (0, 0))) := (Below.refl _ _).alloc (Nat.le_refl _) _
  have kS := heap_new w (.cells #[.int .i64 2, .int .i64 kk, .int .i64 n, .int .i64 t, .slice aF F.length cF, .slice aE E.length cE] 62 (0, 0))
  have hcb := lt_of h.m
  have hk := h.lt
  have hE0 := hE.wide (ok' := fun i => okE i ∧ i < w.heap.size) (fun i h1 h2 => ⟨h1, h2⟩)
  have HL := hide (fun W k1 v1 C1 R1 (o : CO W cb k1 v1 C1 R1) (hk1 : k1 = k ∨ w.heap.size ≤ k1) (hl1 : C1.length ≤ 500000) (a : Aside [cb, k] w.heap.size w W) (X : List Cd.In) (b : Nat) (cap : Nat) (hX : HIns (fun i => i = b) W (.slice (some ⟨b, 0, none⟩) X.length cap) X) (hb1 : b ≠ cb) (hb2 : b ≠ k1) (hXl : X.length ≤ 100) (hXr : ∀ x ∈ X, 0 ≤ x.r ∧ x.r ≤ 1000) => addLoop45_any (cF := cF) (nF := F.length) (aF := aF) o hl1 2 kk n t (hE0.aside a (fun i hi => by have := hok i hi.1; simp; exact this)) (far_own hok hk1) hf ht hX (fun i hi => by rw [hi]; exact ⟨hb1, hb2⟩) hXl hXr)
  generalize E.length = ne at HL b1 kS ⊢
  generalize F.length = nf at HL b1 kS ⊢
  have HH := hide h
  clear h hF hE hok hf hE0 ht
  go_enter Tryd.func22, Tryd.ntmps22
  go_upto_region 1 with fail
  generalize w.alloc (.cells #[.int .i64 2, .int .i64 kk, .int .i64 n, .int .i64 t, .slice aF nf cF, .slice aE ne cE] 62 (0, 0)) = w1 at b1 kS ⊢
  have s0 := cell_of kS 0
  have s1 := cell_of kS 1
  have s2 := cell_of kS 2
  have s3 := cell_of kS 3
  have s4 := cell_of kS 4
  have s5 := cell_of kS 5
  simp at s0 s1 s2 s3 s4 s5
  have yS := lt_of kS
  have HRow := hide (fun W (o : CO W cb k v C R) (a : Aside [cb, k] w.heap.size w W) (b : Nat) (kb : W.heap[b]? = some (.cells #[.int .i64 5, .int .i64 0, .int .i64 2, .int .i64 0, .int .i64 n, .int .i64 t] 72 (0, 0))) (hb : w.heap.size ≤ b) => HL.out W k v C R o (.inl rfl) (by omega) a [⟨5, 0, 2, 0, n, t⟩] b 1 (one_row kb rfl) (by omega) (by omega) (by show 1 ≤ 100; omega) (fun x hx => by simp at hx; subst hx; show (0 : Int) ≤ 2 ∧ (2 : Int) ≤ 1000; omega))
  clear HL kS
  go_upto_region 6 with fail
  refine wp_region_late (fun w' => Aside [cb, k] w1.heap.size w1 w') (fun _ => false) (by kernel_rfl) ?_
  have hH0 : Aside [cb, k] w1.heap.size w1 w1.drew := (Aside.refl _).drew
  have kC : CO w1.drew cb k v C R := HH.out.under b1.drew
  generalize w1.drew = wd0 at hH0 kC ⊢
  refine' wpAnyL_take (i := 0) (oi := ⟨some 19, _, _, _, _, _⟩) (v := _) rfl (by kernel_rfl) (by kernel_rfl) (by kernel_rfl) (by kernel_rfl) (fun _ _ _ h => h) hH0 (by rfl) ?hyv ?onw
  case hyv =>
    intro wz hSw
    go_simp
    try rfl
  case onw =>
    try simp only [Act.put, List.setIfInBounds_toArray, List.set_cons_zero, List.set_cons_succ]
    refine' wpAnyL_take (i := 1) (oi := ⟨some 20, _, _, _, _, _⟩) (v := _) rfl (by kernel_rfl) (by kernel_rfl) (by kernel_rfl) (by kernel_rfl) (fun _ _ _ h => h) hH0 (by rfl) ?hyv ?onw
    case hyv =>
      intro wz hSw
      have zc0 := (aside_cell hSw (p := ⟨w.heap.size, 0, none⟩) yS (by simp; omega)).trans s0
      have zc1 := (aside_cell hSw (p := ⟨w.heap.size, 1, none⟩) yS (by simp; omega)).trans s1
      have zc2 := (aside_cell hSw (p := ⟨w.heap.size, 2, none⟩) yS (by simp; omega)).trans s2
      have zc3 := (aside_cell hSw (p := ⟨w.heap.size, 3, none⟩) yS (by simp; omega)).trans s3
      have zc4 := (aside_cell hSw (p := ⟨w.heap.size, 4, none⟩) yS (by simp; omega)).trans s4
      have zc5 := (aside_cell hSw (p := ⟨w.heap.size, 5, none⟩) yS (by simp; omega)).trans s5
      go_simp
      try rfl
    case onw =>
      try simp only [Act.put, List.setIfInBounds_toArray, List.set_cons_zero, List.set_cons_succ]
      refine' wpAnyL_take (i := 2) (oi := ⟨some 21, _, _, _, _, _⟩) (v := _) rfl (by kernel_rfl) (by kernel_rfl) (by kernel_rfl) (by kernel_rfl) (fun _ _ _ h => h) hH0 (by rfl) ?hyv ?onw
      case hyv =>
        intro wz hSw
        have zc0 := (aside_cell hSw (p := ⟨w.heap.size, 0, none⟩) yS (by simp; omega)).trans s0
        have zc1 := (aside_cell hSw (p := ⟨w.heap.size, 1, none⟩) yS (by simp; omega)).trans s1
        have zc2 := (aside_cell hSw (p := ⟨w.heap.size, 2, none⟩) yS (by simp; omega)).trans s2
        have zc3 := (aside_cell hSw (p := ⟨w.heap.size, 3, none⟩) yS (by simp; omega)).trans s3
        have zc4 := (aside_cell hSw (p := ⟨w.heap.size, 4, none⟩) yS (by simp; omega)).trans s4
        have zc5 := (aside_cell hSw (p := ⟨w.heap.size, 5, none⟩) yS (by simp; omega)).trans s5
        go_simp
        try rfl
      case onw =>
        try simp only [Act.put, List.setIfInBounds_toArray, List.set_cons_zero, List.set_cons_succ]
        refine wpAnyL_one (i := 3) (o := _) rfl (by kernel_rfl) (by rfl) (fun K hK => ?_)
        go_simp
        refine (toTurn46_any 2 2 kk n t wd0).mono ?_
        rintro eq wd1 ⟨rfl, bq1⟩
        have hH1 : Aside [cb, k] w1.heap.size w1 wd1 := hH0.trans (aside bq1) hH0.size
        have kC1 := kC.under bq1
        refine hK.out _ _ (fun _ => hH1) ?_
        clear hK K
        try simp only [Act.put, List.setIfInBounds_toArray, List.set_cons_zero, List.set_cons_succ]
        refine wpAnyL_one (i := 4) (o := _) rfl (by kernel_rfl) (by rfl) (fun K hK => ?_)
        go_simp
        have hH2 : Aside [cb, k] w1.heap.size w1 (wd1.alloc (.cells #[.int .i64 5, .int .i64 0, .int .i64 2, .int .i64 0, .int .i64 n, .int .i64 t] 72 (0, 0))) := hH1.alloc hH1.size _
        have kn2 := heap_new wd1 (.cells #[.int .i64 5, .int .i64 0, .int .i64 2, .int .i64 0, .int .i64 n, .int .i64 t] 72 (0, 0))
        have zn2 := hH1.size
        refine hK.out _ _ (fun _ => hH2) ?_
        clear hK K
        try simp only [Act.put, List.setIfInBounds_toArray, List.set_cons_zero, List.set_cons_succ]
        have kC1_2 := kC1.below ((Below.refl _ wd1).alloc (Nat.le_refl _) (.cells #[.int .i64 5, .int .i64 0, .int .i64 2, .int .i64 0, .int .i64 n, .int .i64 t] 72 (0, 0)))
        generalize wd1.alloc (.cells #[.int .i64 5, .int .i64 0, .int .i64 2, .int .i64 0, .int .i64 n, .int .i64 t] 72 (0, 0)) = wd2 at kC1_2 hH2 kn2 ⊢
        refine wpAnyL_one (i := 5) (o := _) rfl (by kernel_rfl) (by rfl) (fun K hK => ?_)
        go_simp
        refine (HRow.out wd2 kC1_2 ((aside b1).trans hH2 b1.size) _ kn2 (Nat.le_trans b1.size zn2)).mono ?_
        rintro eq wd3 h3
        have hH3 : Aside [cb, k] w1.heap.size w1 wd3 := hH2.trans h3.a hH2.size
        have h6 := CP.next ((aside b1).trans hH2 b1.size) (.inl rfl) h3
        have ee := h3.e
        clear h3
        subst ee
        refine hK.out _ _ (fun _ => hH3) ?_
        clear hK K
        try simp only [Act.put, List.setIfInBounds_toArray, List.set_cons_zero, List.set_cons_succ]
        refine wpAnyL_done (by kernel_rfl) ?_ _
        have ho := h6.o
        have ha := h6.a
        clear h6
        go_wp2
        exact bodyPost_end (v := .tuple #[]) (by simp [results, Tryd.results22]) rfl ⟨rfl, ho, ha⟩
end Go.Proofs.YtbiomnnlpafciaaDoor
