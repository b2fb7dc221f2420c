import Derived.Test.YtbiomnnlpafciaaDoorT23
import Derived.WalkKit
import Derived.WalkSpells
import Derived.IntWalk
import Derived.Deep.Cut
import Derived.Deep.LoopGhost
import Derived.Laws.Cover1
import Derived.Lib.Hide
set_option linter.unusedVariables false
set_option linter.unusedSimpArgs false
set_option maxHeartbeats 64000000
set_option maxRecDepth 100000
namespace Go.Proofs.YtbiomnnlpafciaaDoor
open Go.RowKit Go.IntWalk
set_option linter.unusedVariables false
set_option linter.unusedSimpArgs false
set_option maxHeartbeats 16000000 in
theorem addStep3_any {w : World} {cb k : Nat} {v : Value} {C : List Cd.In} {R : Int} (h : CO w cb k v C R) (hlen : C.length ≤ 400000) (kk n t : Int) {okE : Nat → Prop} {aF aE : Option Addr} {cF cE : Nat} {F E : List Pu} (hF : HPu okE w (.slice aF F.length cF) F) (hE : HPu okE w (.slice aE E.length cE) E) (hok : ∀ i, okE i → i ≠ cb ∧ i ≠ k) {c m m2 : Int} (hf : Lo.Fit c m E) (hfF : Lo.Fit c m2 F) (ht : 0 ≤ n) : Calls Tryd.prog 22 #[.pointer (some ⟨cb, 0, none⟩), .agg #[.int .i64 3, .int .i64 kk, .int .i64 n, .int .i64 t, .slice aF F.length cF, .slice aE E.length cE]] w (CP w cb k (C ++ ((Em.et F 2 0 ++ [(⟨9, 0, 1, 2, 0, 0⟩ : Cd.In)]) ++ (loopC n E [(⟨7, kk, 1, 1, 2, 0⟩ : Cd.In)] ++ [(⟨4, 0, 1, 0, 0, t⟩ : Cd.In)]))) (Em.rg R ((Em.et F 2 0 ++ [(⟨9, 0, 1, 2, 0, 0⟩ : Cd.In)]) ++ (loopC n E [(⟨7, kk, 1, 1, 2, 0⟩ : Cd.In)] ++ [(⟨4, 0, 1, 0, 0, t⟩ : Cd.In)])))) := by
  have b1 : Below w.heap.size w (w.alloc (.cells #[.int .i64 3, .int .i64 kk, .int .i64 n, .int .i64 t, .slice aF F.length cF, .slice aE E.length cE] 62 (0, 0))) := (Below.refl _ _).alloc (Nat.le_refl _) _
  have kS := heap_new w (.cells #[.int .i64 3, .int .i64 kk, .int .i64 n, .int .i64 t, .slice aF F.length cF, .slice aE E.length cE] 62 (0, 0))
  have hcb := lt_of h.m
  have hk := h.lt
  have hE0 := hE.wide (ok' := fun i => okE i ∧ i < w.heap.size) (fun i h1 h2 => ⟨h1, h2⟩)
  have hl := et_len hfF 0
  have hl2 := et_len hf n
  have HL := hide (fun W k1 v1 C1 R1 (o : CO W cb k1 v1 C1 R1) (hk1 : k1 = k ∨ w.heap.size ≤ k1) (hl1 : C1.length ≤ 500000) (a : Aside [cb, k] w.heap.size w W) (X : List Cd.In) (b : Nat) (cap : Nat) (hX : HIns (fun i => i = b) W (.slice (some ⟨b, 0, none⟩) X.length cap) X) (hb1 : b ≠ cb) (hb2 : b ≠ k1) (hXl : X.length ≤ 100) (hXr : ∀ x ∈ X, 0 ≤ x.r ∧ x.r ≤ 1000) => addLoop45_any (cF := cF) (nF := F.length) (aF := aF) o hl1 3 kk n t (hE0.aside a (fun i hi => by have := hok i hi.1; simp; exact this)) (far_own hok hk1) hf ht hX (fun i hi => by rw [hi]; exact ⟨hb1, hb2⟩) hXl hXr)
  have HF := hide (fun W (b : Below w.heap.size w W) => addFirst47_any (h.under b) (by omega) (hF.under b) hok hfF)
  rw [show C ++ ((Em.et F 2 0 ++ [(⟨9, 0, 1, 2, 0, 0⟩ : Cd.In)]) ++ (loopC n E [(⟨7, kk, 1, 1, 2, 0⟩ : Cd.In)] ++ [(⟨4, 0, 1, 0, 0, t⟩ : Cd.In)])) = ((C ++ (Em.et F 2 0 ++ [(⟨9, 0, 1, 2, 0, 0⟩ : Cd.In)])) ++ loopC n E [(⟨7, kk, 1, 1, 2, 0⟩ : Cd.In)]) ++ [(⟨4, 0, 1, 0, 0, t⟩ : Cd.In)] by simp, show Em.rg R ((Em.et F 2 0 ++ [(⟨9, 0, 1, 2, 0, 0⟩ : Cd.In)]) ++ (loopC n E [(⟨7, kk, 1, 1, 2, 0⟩ : Cd.In)] ++ [(⟨4, 0, 1, 0, 0, t⟩ : Cd.In)])) = Em.rg (Em.rg (Em.rg R (Em.et F 2 0 ++ [(⟨9, 0, 1, 2, 0, 0⟩ : Cd.In)])) (loopC n E [(⟨7, kk, 1, 1, 2, 0⟩ : Cd.In)])) [(⟨4, 0, 1, 0, 0, t⟩ : Cd.In)] by rw [Em.rg_app, Em.rg_app]]
  have hl3 : (Em.et F 2 0 ++ [(⟨9, 0, 1, 2, 0, 0⟩ : Cd.In)]).length ≤ 301 := by simp; omega
  have hl4 : (loopC n E [(⟨7, kk, 1, 1, 2, 0⟩ : Cd.In)]).length ≤ 400 := by simp [loopC]; omega
  generalize (Em.et F 2 0 ++ [(⟨9, 0, 1, 2, 0, 0⟩ : Cd.In)]) = Y at HF hl3 ⊢
  have HRow := hide (fun W k1 v1 C1 R1 (o : CO W cb k1 v1 C1 R1) (hk1 : k1 = k ∨ w.heap.size ≤ k1) (hl1 : C1.length ≤ 500000) (a : Aside [cb, k] w.heap.size w W) (b : Nat) (kb : W.heap[b]? = some (.cells #[.int .i64 7, .int .i64 kk, .int .i64 1, .int .i64 1, .int .i64 2, .int .i64 0] 72 (0, 0))) (hb : w.heap.size ≤ b) (hb2 : b ≠ k1) => HL.out W k1 v1 C1 R1 o hk1 hl1 a [(⟨7, kk, 1, 1, 2, 0⟩ : Cd.In)] b 1 (row_of kb rfl rfl (by show 1 ≤ 1000; omega)) (by omega) hb2 (by show 1 ≤ 100; omega) (fun x hx => by simp at hx; subst hx; show (0 : Int) ≤ 1 ∧ (1 : Int) ≤ 1000; omega))
  generalize loopC n E [(⟨7, kk, 1, 1, 2, 0⟩ : Cd.In)] = Z at HRow hl4 ⊢
  generalize E.length = ne at HL HRow b1 kS ⊢
  generalize F.length = nf at HL HF HRow b1 kS ⊢
  have HTC := hide (fun W => toCell44_any (aF := aF) (nF := nf) (cF := cF) (aE := aE) (nE := ne) (cE := cE) 1 3 kk n t W)
  have HH := hide h
  clear h hF hE hok hf hE0 ht HL hfF hl hl2
  go_enter Tryd.func22, Tryd.ntmps22
  go_upto_region 1 with fail
  generalize w.alloc (.cells #[.int .i64 3, .int .i64 kk, .int .i64 n, .int .i64 t, .slice aF nf cF, .slice aE ne cE] 62 (0, 0)) = w1 at b1 kS ⊢
  have s0 := cell_of kS 0
  have s1 := cell_of kS 1
  have s2 := cell_of kS 2
  have s3 := cell_of kS 3
  have s4 := cell_of kS 4
  have s5 := cell_of kS 5
  simp at s0 s1 s2 s3 s4 s5
  have yS := lt_of kS
  go_wp2_with fail
  refine (HF.out _ b1).mono ?_
  rintro e w2 h2
  obtain ⟨ee, ⟨k2, v2, o2, hk2⟩, a2⟩ := h2
  have kS2 := (a2.block (w.heap.size) yS (by simp; omega)).trans kS
  have A2 : Aside [cb, k] w.heap.size w w2 := (aside b1).trans a2 b1.size
  have K2 : k2 = k ∨ w.heap.size ≤ k2 := hk2.imp id (fun h => Nat.le_trans b1.size h)
  have HO2 := hide o2
  have yk2 := o2.lt
  have nk2 : w.heap.size ≠ k2 := by rcases hk2 with h | h <;> omega
  have hcb2 : w.heap.size ≠ cb := by omega
  have s0 := cell_of kS2 0
  have s1 := cell_of kS2 1
  have s2 := cell_of kS2 2
  have s3 := cell_of kS2 3
  have s4 := cell_of kS2 4
  have s5 := cell_of kS2 5
  simp at s0 s1 s2 s3 s4 s5
  clear HF b1 kS o2 a2 hk2 yS
  have yS := lt_of kS2
  subst ee
  go_upto_region 9 with fail
  refine wp_region_late (fun w' => Aside [cb, k2] w2.heap.size w2 w') (fun _ => false) (by kernel_rfl) ?_
  have hH0 : Aside [cb, k2] w2.heap.size w2 w2.drew := (Aside.refl _).drew
  have kC : CO w2.drew cb k2 v2 (C ++ Y) (Em.rg R Y) := HO2.out.under (Below.refl _ _).drew
  generalize w2.drew = wd0 at hH0 kC ⊢
  refine' wpAnyL_take (i := 0) (oi := ⟨some 31, _, _, _, _, _⟩) (v := _) rfl (by kernel_rfl) (by kernel_rfl) (by kernel_rfl) (by kernel_rfl) (fun _ _ _ h => h) hH0 (by rfl) ?hyv ?onw
  case hyv =>
    intro wz hSw
    go_simp
    try rfl
  case onw =>
    try simp only [Act.put, List.setIfInBounds_toArray, List.set_cons_zero, List.set_cons_succ]
    refine' wpAnyL_take (i := 1) (oi := ⟨some 32, _, _, _, _, _⟩) (v := _) rfl (by kernel_rfl) (by kernel_rfl) (by kernel_rfl) (by kernel_rfl) (fun _ _ _ h => h) hH0 (by rfl) ?hyv ?onw
    case hyv =>
      intro wz hSw
      have zc0 := (aside_cell hSw (p := ⟨w.heap.size, 0, none⟩) yS (by simp; omega)).trans s0
      have zc1 := (aside_cell hSw (p := ⟨w.heap.size, 1, none⟩) yS (by simp; omega)).trans s1
      have zc2 := (aside_cell hSw (p := ⟨w.heap.size, 2, none⟩) yS (by simp; omega)).trans s2
      have zc3 := (aside_cell hSw (p := ⟨w.heap.size, 3, none⟩) yS (by simp; omega)).trans s3
      have zc4 := (aside_cell hSw (p := ⟨w.heap.size, 4, none⟩) yS (by simp; omega)).trans s4
      have zc5 := (aside_cell hSw (p := ⟨w.heap.size, 5, none⟩) yS (by simp; omega)).trans s5
      go_simp
      try rfl
    case onw =>
      try simp only [Act.put, List.setIfInBounds_toArray, List.set_cons_zero, List.set_cons_succ]
      refine' wpAnyL_take (i := 2) (oi := ⟨some 33, _, _, _, _, _⟩) (v := _) rfl (by kernel_rfl) (by kernel_rfl) (by kernel_rfl) (by kernel_rfl) (fun _ _ _ h => h) hH0 (by rfl) ?hyv ?onw
      case hyv =>
        intro wz hSw
        go_simp
        try rfl
      case onw =>
        try simp only [Act.put, List.setIfInBounds_toArray, List.set_cons_zero, List.set_cons_succ]
        refine' wpAnyL_take (i := 3) (oi := ⟨some 34, _, _, _, _, _⟩) (v := _) rfl (by kernel_rfl) (by kernel_rfl) (by kernel_rfl) (by kernel_rfl) (fun _ _ _ h => h) hH0 (by rfl) ?hyv ?onw
        case hyv =>
          intro wz hSw
          have zc0 := (aside_cell hSw (p := ⟨w.heap.size, 0, none⟩) yS (by simp; omega)).trans s0
          have zc1 := (aside_cell hSw (p := ⟨w.heap.size, 1, none⟩) yS (by simp; omega)).trans s1
          have zc2 := (aside_cell hSw (p := ⟨w.heap.size, 2, none⟩) yS (by simp; omega)).trans s2
          have zc3 := (aside_cell hSw (p := ⟨w.heap.size, 3, none⟩) yS (by simp; omega)).trans s3
          have zc4 := (aside_cell hSw (p := ⟨w.heap.size, 4, none⟩) yS (by simp; omega)).trans s4
          have zc5 := (aside_cell hSw (p := ⟨w.heap.size, 5, none⟩) yS (by simp; omega)).trans s5
          go_simp
          try rfl
        case onw =>
          try simp only [Act.put, List.setIfInBounds_toArray, List.set_cons_zero, List.set_cons_succ]
          refine wpAnyL_one (i := 4) (o := _) rfl (by kernel_rfl) (by rfl) (fun K hK => ?_)
          go_simp
          refine (join48_any kk wd0).mono ?_
          rintro eq wd1 ⟨rfl, bq1⟩
          have hH1 : Aside [cb, k2] w2.heap.size w2 wd1 := hH0.trans (aside bq1) hH0.size
          have kC1 := kC.under bq1
          refine hK.out _ _ (fun _ => hH1) ?_
          clear hK K
          try simp only [Act.put, List.setIfInBounds_toArray, List.set_cons_zero, List.set_cons_succ]
          refine wpAnyL_one (i := 5) (o := _) rfl (by kernel_rfl) (by rfl) (fun K hK => ?_)
          go_simp
          have hH2 : Aside [cb, k2] w2.heap.size w2 (wd1.alloc (.cells #[.int .i64 7, .int .i64 kk, .int .i64 1, .int .i64 1, .int .i64 2, .int .i64 0] 72 (0, 0))) := hH1.alloc hH1.size _
          have kn2 := heap_new wd1 (.cells #[.int .i64 7, .int .i64 kk, .int .i64 1, .int .i64 1, .int .i64 2, .int .i64 0] 72 (0, 0))
          have zn2 := hH1.size
          refine hK.out _ _ (fun _ => hH2) ?_
          clear hK K
          try simp only [Act.put, List.setIfInBounds_toArray, List.set_cons_zero, List.set_cons_succ]
          have kC1_2 := kC1.below ((Below.refl _ wd1).alloc (Nat.le_refl _) (.cells #[.int .i64 7, .int .i64 kk, .int .i64 1, .int .i64 1, .int .i64 2, .int .i64 0] 72 (0, 0)))
          generalize wd1.alloc (.cells #[.int .i64 7, .int .i64 kk, .int .i64 1, .int .i64 1, .int .i64 2, .int .i64 0] 72 (0, 0)) = wd2 at kC1_2 hH2 kn2 ⊢
          refine wpAnyL_one (i := 6) (o := _) rfl (by kernel_rfl) (by rfl) (fun K hK => ?_)
          go_simp
          refine (HRow.out wd2 _ _ _ _ kC1_2 K2 (by simp; omega) (aside_next A2 K2 hH2) _ kn2 (Nat.le_trans A2.size zn2) (by have := zn2; omega)).mono ?_
          rintro eq wd3 h3
          have hH3 : Aside [cb, k2] w2.heap.size w2 wd3 := hH2.trans h3.a hH2.size
          have h6 := CP.next hH2 (.inl rfl) h3
          have ee := h3.e
          clear h3
          subst ee
          refine hK.out _ _ (fun _ => hH3) ?_
          clear hK K
          try simp only [Act.put, List.setIfInBounds_toArray, List.set_cons_zero, List.set_cons_succ]
          refine wpAnyL_done (by kernel_rfl) ?_ _
          obtain ⟨-, ⟨k3, v3, o3, hk3⟩, a3⟩ := h6
          have hC3 := o3.own
          have kS3 := (a3.block (w.heap.size) yS (by simp; omega)).trans kS2
          have A3 := aside_next A2 K2 a3
          have K3 := next_own K2 hk3 A2.size
          have HO3 := hide o3
          have s0 := cell_of kS3 0
          have s1 := cell_of kS3 1
          have s2 := cell_of kS3 2
          have s3 := cell_of kS3 3
          have s4 := cell_of kS3 4
          have s5 := cell_of kS3 5
          simp at s0 s1 s2 s3 s4 s5
          clear o3 a3 hk3 kS2 HRow HO2 A2 K2
          go_wp2_with fail
          refine (HTC.out _).mono ?_
          rintro e w7 h7
          obtain ⟨ee, b7⟩ := h7
          clear s0 s1 s2 s3 s4 s5
          subst ee
          go_wp2_with fail
          refine (addOne HO3.out (by simp; omega) _ b7 4 0 1 0 0 t (by omega)).mono ?_
          rintro e w8 h8
          have h9 := CP.next A3 K3 h8
          have ee := h9.e
          have ho := h9.o
          have ha := h9.a
          clear h8 h9 HO3
          subst ee
          go_wp2
          exact bodyPost_end (v := .tuple #[]) (by simp [results, Tryd.results22]) rfl ⟨rfl, ho, ha⟩
set_option maxHeartbeats 16000000 in
theorem addStep4_any {w : World} {cb k : Nat} {v : Value} {C : List Cd.In} {R : Int} (h : CO w cb k v C R) (hlen : C.length ≤ 400000) (kk n t : Int) {okE : Nat → Prop} {aF aE : Option Addr} {cF cE : Nat} {F E : List Pu} (hF : HPu okE w (.slice aF F.length cF) F) (hE : HPu okE w (.slice aE E.length cE) E) (hok : ∀ i, okE i → i ≠ cb ∧ i ≠ k) {c m m2 : Int} (hf : Lo.Fit c m E) (hfF : Lo.Fit c m2 F) (ht : 0 ≤ n) : Calls Tryd.prog 22 #[.pointer (some ⟨cb, 0, none⟩), .agg #[.int .i64 4, .int .i64 kk, .int .i64 n, .int .i64 t, .slice aF F.length cF, .slice aE E.length cE]] w (CP w cb k (C ++ ((Em.et F 2 0 ++ [(⟨9, 0, 1, 2, 0, 0⟩ : Cd.In)]) ++ loopC n E [(⟨7, kk, 1, 1, 2, 0⟩ : Cd.In), ⟨5, 0, 1, 0, n, t⟩])) (Em.rg R ((Em.et F 2 0 ++ [(⟨9, 0, 1, 2, 0, 0⟩ : Cd.In)]) ++ loopC n E [(⟨7, kk, 1, 1, 2, 0⟩ : Cd.In), ⟨5, 0, 1, 0, n, t⟩]))) := by
  have b1 : Below w.heap.size w (w.alloc (.cells #[.int .i64 4, .int .i64 kk, .int .i64 n, .int .i64 t, .slice aF F.length cF, .slice aE E.length cE] 62 (0, 0))) := (Below.refl _ _).alloc (Nat.le_refl _) _
  have kS := heap_new w (.cells #[.int .i64 4, .int .i64 kk, .int .i64 n, .int .i64 t, .slice aF F.length cF, .slice aE E.length cE] 62 (0, 0))
  have hcb := lt_of h.m
  have hk := h.lt
  have hE0 := hE.wide (ok' := fun i => okE i ∧ i < w.heap.size) (fun i h1 h2 => ⟨h1, h2⟩)
  have hl := et_len hfF 0
  have hl2 := et_len hf n
  have HL := hide (fun W k1 v1 C1 R1 (o : CO W cb k1 v1 C1 R1) (hk1 : k1 = k ∨ w.heap.size ≤ k1) (hl1 : C1.length ≤ 500000) (a : Aside [cb, k] w.heap.size w W) (X : List Cd.In) (b : Nat) (cap : Nat) (hX : HIns (fun i => i = b) W (.slice (some ⟨b, 0, none⟩) X.length cap) X) (hb1 : b ≠ cb) (hb2 : b ≠ k1) (hXl : X.length ≤ 100) (hXr : ∀ x ∈ X, 0 ≤ x.r ∧ x.r ≤ 1000) => addLoop45_any (cF := cF) (nF := F.length) (aF := aF) o hl1 4 kk n t (hE0.aside a (fun i hi => by have := hok i hi.1; simp; exact this)) (far_own hok hk1) hf ht hX (fun i hi => by rw [hi]; exact ⟨hb1, hb2⟩) hXl hXr)
  have HF := hide (fun W (b : Below w.heap.size w W) => addFirst47_any (h.under b) (by omega) (hF.under b) hok hfF)
  rw [show C ++ ((Em.et F 2 0 ++ [(⟨9, 0, 1, 2, 0, 0⟩ : Cd.In)]) ++ loopC n E [(⟨7, kk, 1, 1, 2, 0⟩ : Cd.In), ⟨5, 0, 1, 0, n, t⟩]) = (C ++ (Em.et F 2 0 ++ [(⟨9, 0, 1, 2, 0, 0⟩ : Cd.In)])) ++ loopC n E [(⟨7, kk, 1, 1, 2, 0⟩ : Cd.In), ⟨5, 0, 1, 0, n, t⟩] by simp, Em.rg_app]
  have hl3 : (Em.et F 2 0 ++ [(⟨9, 0, 1, 2, 0, 0⟩ : Cd.In)]).length ≤ 301 := by simp; omega
  have hl4 : (loopC n E [(⟨7, kk, 1, 1, 2, 0⟩ : Cd.In), ⟨5, 0, 1, 0, n, t⟩]).length ≤ 400 := by simp [loopC]; omega
  generalize (Em.et F 2 0 ++ [(⟨9, 0, 1, 2, 0, 0⟩ : Cd.In)]) = Y at HF hl3 ⊢
  have HRow := hide (fun W k1 v1 C1 R1 (o : CO W cb k1 v1 C1 R1) (hk1 : k1 = k ∨ w.heap.size ≤ k1) (hl1 : C1.length ≤ 500000) (a : Aside [cb, k] w.heap.size w W) (b : Nat) (kb : W.heap[b]? = some (.cells #[.int .i64 7, .int .i64 kk, .int .i64 1, .int .i64 1, .int .i64 2, .int .i64 0, .int .i64 5, .int .i64 0, .int .i64 1, .int .i64 0, .int .i64 n, .int .i64 t] 72 (0, 0))) (hb : w.heap.size ≤ b) (hb2 : b ≠ k1) => HL.out W k1 v1 C1 R1 o hk1 hl1 a [(⟨7, kk, 1, 1, 2, 0⟩ : Cd.In), ⟨5, 0, 1, 0, n, t⟩] b 2 (row_of kb rfl rfl (by show 2 ≤ 1000; omega)) (by omega) hb2 (by show 2 ≤ 100; omega) (fun x hx => by simp at hx; rcases hx with rfl | rfl <;> (show (0 : Int) ≤ 1 ∧ (1 : Int) ≤ 1000; omega)))
  generalize loopC n E [(⟨7, kk, 1, 1, 2, 0⟩ : Cd.In), ⟨5, 0, 1, 0, n, t⟩] = Z at HRow hl4 ⊢
  generalize E.length = ne at HL HRow b1 kS ⊢
  generalize F.length = nf at HL HF HRow b1 kS ⊢
  have HH := hide h
  clear h hF hE hok hf hE0 ht HL hfF hl hl2
  go_enter Tryd.func22, Tryd.ntmps22
  go_upto_region 1 with fail
  generalize w.alloc (.cells #[.int .i64 4, .int .i64 kk, .int .i64 n, .int .i64 t, .slice aF nf cF, .slice aE ne cE] 62 (0, 0)) = w1 at b1 kS ⊢
  have s0 := cell_of kS 0
  have s1 := cell_of kS 1
  have s2 := cell_of kS 2
  have s3 := cell_of kS 3
  have s4 := cell_of kS 4
  have s5 := cell_of kS 5
  simp at s0 s1 s2 s3 s4 s5
  have yS := lt_of kS
  go_wp2_with fail
  refine (HF.out _ b1).mono ?_
  rintro e w2 h2
  obtain ⟨ee, ⟨k2, v2, o2, hk2⟩, a2⟩ := h2
  have kS2 := (a2.block (w.heap.size) yS (by simp; omega)).trans kS
  have A2 : Aside [cb, k] w.heap.size w w2 := (aside b1).trans a2 b1.size
  have K2 : k2 = k ∨ w.heap.size ≤ k2 := hk2.imp id (fun h => Nat.le_trans b1.size h)
  have HO2 := hide o2
  have yk2 := o2.lt
  have nk2 : w.heap.size ≠ k2 := by rcases hk2 with h | h <;> omega
  have hcb2 : w.heap.size ≠ cb := by omega
  have s0 := cell_of kS2 0
  have s1 := cell_of kS2 1
  have s2 := cell_of kS2 2
  have s3 := cell_of kS2 3
  have s4 := cell_of kS2 4
  have s5 := cell_of kS2 5
  simp at s0 s1 s2 s3 s4 s5
  clear HF b1 kS o2 a2 hk2 yS
  have yS := lt_of kS2
  subst ee
  go_upto_region 13 with fail
  refine wp_region_late (fun w' => Aside [cb, k2] w2.heap.size w2 w') (fun _ => false) (by kernel_rfl) ?_
  have hH0 : Aside [cb, k2] w2.heap.size w2 w2.drew := (Aside.refl _).drew
  have kC : CO w2.drew cb k2 v2 (C ++ Y) (Em.rg R Y) := HO2.out.under (Below.refl _ _).drew
  generalize w2.drew = wd0 at hH0 kC ⊢
  refine' wpAnyL_take (i := 0) (oi := ⟨some 49, _, _, _, _, _⟩) (v := _) rfl (by kernel_rfl) (by kernel_rfl) (by kernel_rfl) (by kernel_rfl) (fun _ _ _ h => h) hH0 (by rfl) ?hyv ?onw
  case hyv =>
    intro wz hSw
    go_simp
    try rfl
  case onw =>
    try simp only [Act.put, List.setIfInBounds_toArray, List.set_cons_zero, List.set_cons_succ]
    refine' wpAnyL_take (i := 1) (oi := ⟨some 50, _, _, _, _, _⟩) (v := _) rfl (by kernel_rfl) (by kernel_rfl) (by kernel_rfl) (by kernel_rfl) (fun _ _ _ h => h) hH0 (by rfl) ?hyv ?onw
    case hyv =>
      intro wz hSw
      have zc0 := (aside_cell hSw (p := ⟨w.heap.size, 0, none⟩) yS (by simp; omega)).trans s0
      have zc1 := (aside_cell hSw (p := ⟨w.heap.size, 1, none⟩) yS (by simp; omega)).trans s1
      have zc2 := (aside_cell hSw (p := ⟨w.heap.size, 2, none⟩) yS (by simp; omega)).trans s2
      have zc3 := (aside_cell hSw (p := ⟨w.heap.size, 3, none⟩) yS (by simp; omega)).trans s3
      have zc4 := (aside_cell hSw (p := ⟨w.heap.size, 4, none⟩) yS (by simp; omega)).trans s4
      have zc5 := (aside_cell hSw (p := ⟨w.heap.size, 5, none⟩) yS (by simp; omega)).trans s5
      go_simp
      try rfl
    case onw =>
      try simp only [Act.put, List.setIfInBounds_toArray, List.set_cons_zero, List.set_cons_succ]
      refine' wpAnyL_take (i := 2) (oi := ⟨some 51, _, _, _, _, _⟩) (v := _) rfl (by kernel_rfl) (by kernel_rfl) (by kernel_rfl) (by kernel_rfl) (fun _ _ _ h => h) hH0 (by rfl) ?hyv ?onw
      case hyv =>
        intro wz hSw
        go_simp
        try rfl
      case onw =>
        try simp only [Act.put, List.setIfInBounds_toArray, List.set_cons_zero, List.set_cons_succ]
        refine' wpAnyL_take (i := 3) (oi := ⟨some 52, _, _, _, _, _⟩) (v := _) rfl (by kernel_rfl) (by kernel_rfl) (by kernel_rfl) (by kernel_rfl) (fun _ _ _ h => h) hH0 (by rfl) ?hyv ?onw
        case hyv =>
          intro wz hSw
          have zc0 := (aside_cell hSw (p := ⟨w.heap.size, 0, none⟩) yS (by simp; omega)).trans s0
          have zc1 := (aside_cell hSw (p := ⟨w.heap.size, 1, none⟩) yS (by simp; omega)).trans s1
          have zc2 := (aside_cell hSw (p := ⟨w.heap.size, 2, none⟩) yS (by simp; omega)).trans s2
          have zc3 := (aside_cell hSw (p := ⟨w.heap.size, 3, none⟩) yS (by simp; omega)).trans s3
          have zc4 := (aside_cell hSw (p := ⟨w.heap.size, 4, none⟩) yS (by simp; omega)).trans s4
          have zc5 := (aside_cell hSw (p := ⟨w.heap.size, 5, none⟩) yS (by simp; omega)).trans s5
          go_simp
          try rfl
        case onw =>
          try simp only [Act.put, List.setIfInBounds_toArray, List.set_cons_zero, List.set_cons_succ]
          refine' wpAnyL_take (i := 5) (oi := ⟨some 54, _, _, _, _, _⟩) (v := _) rfl (by kernel_rfl) (by kernel_rfl) (by kernel_rfl) (by kernel_rfl) (fun _ _ _ h => h) hH0 (by rfl) ?hyv ?onw
          case hyv =>
            intro wz hSw
            have zc0 := (aside_cell hSw (p := ⟨w.heap.size, 0, none⟩) yS (by simp; omega)).trans s0
            have zc1 := (aside_cell hSw (p := ⟨w.heap.size, 1, none⟩) yS (by simp; omega)).trans s1
            have zc2 := (aside_cell hSw (p := ⟨w.heap.size, 2, none⟩) yS (by simp; omega)).trans s2
            have zc3 := (aside_cell hSw (p := ⟨w.heap.size, 3, none⟩) yS (by simp; omega)).trans s3
            have zc4 := (aside_cell hSw (p := ⟨w.heap.size, 4, none⟩) yS (by simp; omega)).trans s4
            have zc5 := (aside_cell hSw (p := ⟨w.heap.size, 5, none⟩) yS (by simp; omega)).trans s5
            go_simp
            try rfl
          case onw =>
            try simp only [Act.put, List.setIfInBounds_toArray, List.set_cons_zero, List.set_cons_succ]
            refine wpAnyL_one (i := 4) (o := _) rfl (by kernel_rfl) (by rfl) (fun K hK => ?_)
            go_simp
            refine (join48_any kk wd0).mono ?_
            rintro eq wd1 ⟨rfl, bq1⟩
            have hH1 : Aside [cb, k2] w2.heap.size w2 wd1 := hH0.trans (aside bq1) hH0.size
            have kC1 := kC.under bq1
            refine hK.out _ _ (fun _ => hH1) ?_
            clear hK K
            try simp only [Act.put, List.setIfInBounds_toArray, List.set_cons_zero, List.set_cons_succ]
            refine wpAnyL_one (i := 6) (o := _) rfl (by kernel_rfl) (by rfl) (fun K hK => ?_)
            go_simp
            refine (toTurn46_any 1 4 kk n t wd1).mono ?_
            rintro eq wd2 ⟨rfl, bq2⟩
            have hH2 : Aside [cb, k2] w2.heap.size w2 wd2 := hH1.trans (aside bq2) hH1.size
            have kC1_2 := kC1.below bq2
            refine hK.out _ _ (fun _ => hH2) ?_
            clear hK K
            try simp only [Act.put, List.setIfInBounds_toArray, List.set_cons_zero, List.set_cons_succ]
            refine wpAnyL_one (i := 7) (o := _) rfl (by kernel_rfl) (by rfl) (fun K hK => ?_)
            go_simp
            have hH3 : Aside [cb, k2] w2.heap.size w2 (wd2.alloc (.cells #[.int .i64 7, .int .i64 kk, .int .i64 1, .int .i64 1, .int .i64 2, .int .i64 0, .int .i64 5, .int .i64 0, .int .i64 1, .int .i64 0, .int .i64 n, .int .i64 t] 72 (0, 0))) := hH2.alloc hH2.size _
            have kn3 := heap_new wd2 (.cells #[.int .i64 7, .int .i64 kk, .int .i64 1, .int .i64 1, .int .i64 2, .int .i64 0, .int .i64 5, .int .i64 0, .int .i64 1, .int .i64 0, .int .i64 n, .int .i64 t] 72 (0, 0))
            have zn3 := hH2.size
            refine hK.out _ _ (fun _ => hH3) ?_
            clear hK K
            try simp only [Act.put, List.setIfInBounds_toArray, List.set_cons_zero, List.set_cons_succ]
            have kC1_3 := kC1_2.below ((Below.refl _ wd2).alloc (Nat.le_refl _) (.cells #[.int .i64 7, .int .i64 kk, .int .i64 1, .int .i64 1, .int .i64 2, .int .i64 0, .int .i64 5, .int .i64 0, .int .i64 1, .int .i64 0, .int .i64 n, .int .i64 t] 72 (0, 0)))
            generalize wd2.alloc (.cells #[.int .i64 7, .int .i64 kk, .int .i64 1, .int .i64 1, .int .i64 2, .int .i64 0, .int .i64 5, .int .i64 0, .int .i64 1, .int .i64 0, .int .i64 n, .int .i64 t] 72 (0, 0)) = wd3 at kC1_3 hH3 kn3 ⊢
            refine wpAnyL_one (i := 8) (o := _) rfl (by kernel_rfl) (by rfl) (fun K hK => ?_)
            go_simp
            refine (HRow.out wd3 _ _ _ _ kC1_3 K2 (by simp; omega) (aside_next A2 K2 hH3) _ kn3 (Nat.le_trans A2.size zn3) (by have := zn3; omega)).mono ?_
            rintro eq wd4 h4
            have hH4 : Aside [cb, k2] w2.heap.size w2 wd4 := hH3.trans h4.a hH3.size
            have h6 := CP.next hH3 (.inl rfl) h4
            have ee := h4.e
            clear h4
            subst ee
            refine hK.out _ _ (fun _ => hH4) ?_
            clear hK K
            try simp only [Act.put, List.setIfInBounds_toArray, List.set_cons_zero, List.set_cons_succ]
            refine wpAnyL_done (by kernel_rfl) ?_ _
            obtain ⟨-, ⟨k3, v3, o3, hk3⟩, a3⟩ := h6
            have A3 := aside_next A2 K2 a3
            have K3 := next_own K2 hk3 A2.size
            go_wp2
            exact bodyPost_end (v := .tuple #[]) (by simp [results, Tryd.results22]) rfl ⟨rfl, ⟨k3, v3, o3, K3⟩, A3⟩
end Go.Proofs.YtbiomnnlpafciaaDoor
