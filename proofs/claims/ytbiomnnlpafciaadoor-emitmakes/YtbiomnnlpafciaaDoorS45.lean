import Derived.Test.YtbiomnnlpafciaaDoorS44
import Derived.WalkKit
import Derived.WalkSpells
import Derived.IntWalk
import Derived.Deep.Cut
import Derived.Deep.LoopGhost
import Derived.Laws.Cover1
import Derived.Lib.Hide
set_option linter.unusedVariables false
set_option linter.unusedSimpArgs false
set_option maxHeartbeats 64000000
set_option maxRecDepth 100000
namespace Go.Proofs.YtbiomnnlpafciaaDoor
open Go.RowKit Go.IntWalk
set_option linter.unusedVariables false
set_option linter.unusedSimpArgs false
set_option maxHeartbeats 16000000 in
theorem step1_any {w : World} {cb k : Nat} {v : Value} {C : List Cd.In} (h : EO w cb k v C) (hlen : C.length ≤ 400000) (kk n t : Int) {okE : Nat → Prop} {aF aE : Option Addr} {cF cE : Nat} {F E : List Pu} (hF : HPu okE w (.slice aF F.length cF) F) (hE : HPu okE w (.slice aE E.length cE) E) (hok : ∀ i, okE i → i ≠ cb ∧ i ≠ k) {c m : Int} (hf : Lo.Fit c m E) : Calls Tryd.prog 27 #[.pointer (some ⟨cb, 0, none⟩), .agg #[.int .i64 1, .int .i64 kk, .int .i64 n, .int .i64 t, .slice aF F.length cF, .slice aE E.length cE]] w (EP w cb k (C ++ (Em.et E 2 0 ++ [(⟨4, 0, 2, 0, 0, t⟩ : Cd.In)]))) := by
  have hcb := lt_of h.m
  have hk := h.lt
  have hE0 := hE.wide (ok' := fun i => okE i ∧ i < w.heap.size) (fun i h1 h2 => ⟨h1, h2⟩)
  have hF0 := hF.wide (ok' := fun i => okE i ∧ i < w.heap.size) (fun i h1 h2 => ⟨h1, h2⟩)
  have b1 : Below w.heap.size w (w.alloc (.cells #[.int .i64 1, .int .i64 kk, .int .i64 n, .int .i64 t, .slice aF F.length cF, .slice aE E.length cE] 62 (0, 0))) := (Below.refl _ _).alloc (Nat.le_refl _) _
  have P1 := heap_new w (.cells #[.int .i64 1, .int .i64 kk, .int .i64 n, .int .i64 t, .slice aF F.length cF, .slice aE E.length cE] 62 (0, 0))
  have HTE := hide (fun W k1 v1 C1 (o : EO W cb k1 v1 C1) (hk1 : k1 = k ∨ w.heap.size ≤ k1) (hl1 : C1.length ≤ 700000) (a : Aside [cb, k] w.heap.size w W) => tree56_any (tn := 0) o hl1 (hE0.aside a (fun i hi => by have := hok i hi.1; simp; exact this)) (far_own hok hk1) hf (Int.le_refl 0))
  have hlE := et_len hf 0
  have HO1 := hide (h.under b1)
  generalize E.length = ne at HTE b1 P1 HO1 ⊢
  generalize F.length = nf at b1 P1 HO1 ⊢
  generalize Em.et E 2 0 = Y at HTE hlE ⊢
  try simp only [List.append_assoc, List.cons_append, List.nil_append]
  clear h hF hE hE0 hF0 hf hok
  go_enter Tryd.func27, Tryd.ntmps27
  go_upto_region 1 with fail
  generalize w.alloc (.cells #[.int .i64 1, .int .i64 kk, .int .i64 n, .int .i64 t, .slice aF nf cF, .slice aE ne cE] 62 (0, 0)) = w1 at b1 P1 HO1 ⊢
  have s0 := cell_of P1 0
  have s1 := cell_of P1 1
  have s2 := cell_of P1 2
  have s3 := cell_of P1 3
  have s4 := cell_of P1 4
  have s5 := cell_of P1 5
  simp at s0 s1 s2 s3 s4 s5
  have y1 := lt_of P1
  have A1 : Aside [cb, k] w.heap.size w w1 := aside b1
  have N1 : w.heap.size ≠ k := by omega
  have N0 : w.heap.size ≠ cb := by omega
  go_wp2_with fail
  refine (HTE.out _ _ _ _ HO1.out (.inl rfl) (by omega) A1).mono ?_
  rintro e w2 h2
  obtain ⟨ee, ⟨k2, v2, o2, hk2⟩, a2⟩ := h2
  have P2 := (a2.block _ (lt_of P1) (by simp; omega)).trans P1
  have y2 := Nat.lt_of_lt_of_le y1 a2.size
  have N2 : w.heap.size ≠ k2 := by rcases hk2 with h | h <;> omega
  have A2 := aside_next A1 (.inl rfl) a2
  have K2 := hide (next_own (.inl rfl) hk2 A1.size)
  have HO2 := hide o2
  clear s0 s1 s2 s3 s4 s5 o2 a2 hk2 A1  HO1 N1 y1 P1
  have s0 := cell_of P2 0
  have s1 := cell_of P2 1
  have s2 := cell_of P2 2
  have s3 := cell_of P2 3
  have s4 := cell_of P2 4
  have s5 := cell_of P2 5
  simp at s0 s1 s2 s3 s4 s5
  subst ee
  go_wp2_with fail
  refine (put57_any HO2.out (by simp; omega) 4 0 2 0 0 t).mono ?_
  rintro e w3 h3
  obtain ⟨ee, ⟨k3, v3, o3, hk3⟩, a3⟩ := h3
  have P3 := (a3.block _ (lt_of P2) (by simp; omega)).trans P2
  have y3 := Nat.lt_of_lt_of_le y2 a3.size
  have N3 : w.heap.size ≠ k3 := by rcases hk3 with h | h <;> omega
  have A3 := aside_next A2 K2.out a3
  have K3 := hide (next_own K2.out hk3 A2.size)
  have HO3 := hide o3
  clear s0 s1 s2 s3 s4 s5 o3 a3 hk3 A2 K2 HO2 N2 y2 P2
  have s0 := cell_of P3 0
  have s1 := cell_of P3 1
  have s2 := cell_of P3 2
  have s3 := cell_of P3 3
  have s4 := cell_of P3 4
  have s5 := cell_of P3 5
  simp at s0 s1 s2 s3 s4 s5
  subst ee
  have HN := hide (show EO w3 cb k3 v3 _ by have := HO3.out; (try simp only [List.append_assoc, List.cons_append, List.nil_append] at this); exact this)
  clear HO3 N3 y3 P3
  go_wp2
  exact bodyPost_end (v := .tuple #[]) (by simp [results, Tryd.results27]) rfl ⟨rfl, ⟨k3, v3, HN.out, K3.out⟩, A3⟩
set_option maxHeartbeats 16000000 in
theorem step2_any {w : World} {cb k : Nat} {v : Value} {C : List Cd.In} (h : EO w cb k v C) (hlen : C.length ≤ 400000) (kk n t : Int) {okE : Nat → Prop} {aF aE : Option Addr} {cF cE : Nat} {F E : List Pu} (hF : HPu okE w (.slice aF F.length cF) F) (hE : HPu okE w (.slice aE E.length cE) E) (hok : ∀ i, okE i → i ≠ cb ∧ i ≠ k) {c m : Int} (hf : Lo.Fit c m E) (ht : 0 ≤ n) : Calls Tryd.prog 27 #[.pointer (some ⟨cb, 0, none⟩), .agg #[.int .i64 2, .int .i64 kk, .int .i64 n, .int .i64 t, .slice aF F.length cF, .slice aE E.length cE]] w (EP w cb k (C ++ ((⟨10, 0, 0, 0, 0, n⟩ : Cd.In) :: ((Em.et E 2 n ++ [⟨5, 0, 2, 0, n, t⟩]) ++ [⟨11, 0, 0, 0, 0, 0⟩])))) := by
  have hcb := lt_of h.m
  have hk := h.lt
  have hE0 := hE.wide (ok' := fun i => okE i ∧ i < w.heap.size) (fun i h1 h2 => ⟨h1, h2⟩)
  have hF0 := hF.wide (ok' := fun i => okE i ∧ i < w.heap.size) (fun i h1 h2 => ⟨h1, h2⟩)
  have b1 : Below w.heap.size w (w.alloc (.cells #[.int .i64 2, .int .i64 kk, .int .i64 n, .int .i64 t, .slice aF F.length cF, .slice aE E.length cE] 62 (0, 0))) := (Below.refl _ _).alloc (Nat.le_refl _) _
  have P1 := heap_new w (.cells #[.int .i64 2, .int .i64 kk, .int .i64 n, .int .i64 t, .slice aF F.length cF, .slice aE E.length cE] 62 (0, 0))
  have HTE := hide (fun W k1 v1 C1 (o : EO W cb k1 v1 C1) (hk1 : k1 = k ∨ w.heap.size ≤ k1) (hl1 : C1.length ≤ 700000) (a : Aside [cb, k] w.heap.size w W) => tree56_any (tn := n) o hl1 (hE0.aside a (fun i hi => by have := hok i hi.1; simp; exact this)) (far_own hok hk1) hf ht)
  have hlE := et_len hf n
  have HO1 := hide (h.under b1)
  generalize E.length = ne at HTE b1 P1 HO1 ⊢
  generalize F.length = nf at b1 P1 HO1 ⊢
  generalize Em.et E 2 n = Y at HTE hlE ⊢
  try simp only [List.append_assoc, List.cons_append, List.nil_append]
  clear h hF hE hE0 hF0 hf hok
  go_enter Tryd.func27, Tryd.ntmps27
  go_upto_region 1 with fail
  generalize w.alloc (.cells #[.int .i64 2, .int .i64 kk, .int .i64 n, .int .i64 t, .slice aF nf cF, .slice aE ne cE] 62 (0, 0)) = w1 at b1 P1 HO1 ⊢
  have s0 := cell_of P1 0
  have s1 := cell_of P1 1
  have s2 := cell_of P1 2
  have s3 := cell_of P1 3
  have s4 := cell_of P1 4
  have s5 := cell_of P1 5
  simp at s0 s1 s2 s3 s4 s5
  have y1 := lt_of P1
  have A1 : Aside [cb, k] w.heap.size w w1 := aside b1
  have N1 : w.heap.size ≠ k := by omega
  have N0 : w.heap.size ≠ cb := by omega
  go_wp2_with fail
  refine (put57_any HO1.out (by omega) 10 0 0 0 0 n).mono ?_
  rintro e w2 h2
  obtain ⟨ee, ⟨k2, v2, o2, hk2⟩, a2⟩ := h2
  have P2 := (a2.block _ (lt_of P1) (by simp; omega)).trans P1
  have y2 := Nat.lt_of_lt_of_le y1 a2.size
  have N2 : w.heap.size ≠ k2 := by rcases hk2 with h | h <;> omega
  have A2 := aside_next A1 (.inl rfl) a2
  have K2 := hide (next_own (.inl rfl) hk2 A1.size)
  have HO2 := hide o2
  clear s0 s1 s2 s3 s4 s5 o2 a2 hk2 A1  HO1 N1 y1 P1
  have s0 := cell_of P2 0
  have s1 := cell_of P2 1
  have s2 := cell_of P2 2
  have s3 := cell_of P2 3
  have s4 := cell_of P2 4
  have s5 := cell_of P2 5
  simp at s0 s1 s2 s3 s4 s5
  subst ee
  go_wp2_with fail
  refine (HTE.out _ _ _ _ HO2.out K2.out (by simp; omega) A2).mono ?_
  rintro e w3 h3
  obtain ⟨ee, ⟨k3, v3, o3, hk3⟩, a3⟩ := h3
  have P3 := (a3.block _ (lt_of P2) (by simp; omega)).trans P2
  have y3 := Nat.lt_of_lt_of_le y2 a3.size
  have N3 : w.heap.size ≠ k3 := by rcases hk3 with h | h <;> omega
  have A3 := aside_next A2 K2.out a3
  have K3 := hide (next_own K2.out hk3 A2.size)
  have HO3 := hide o3
  clear s0 s1 s2 s3 s4 s5 o3 a3 hk3 A2 K2 HO2 N2 y2 P2
  have s0 := cell_of P3 0
  have s1 := cell_of P3 1
  have s2 := cell_of P3 2
  have s3 := cell_of P3 3
  have s4 := cell_of P3 4
  have s5 := cell_of P3 5
  simp at s0 s1 s2 s3 s4 s5
  subst ee
  go_wp2_with fail
  refine (put57_any HO3.out (by simp; omega) 5 0 2 0 n t).mono ?_
  rintro e w4 h4
  obtain ⟨ee, ⟨k4, v4, o4, hk4⟩, a4⟩ := h4
  have P4 := (a4.block _ (lt_of P3) (by simp; omega)).trans P3
  have y4 := Nat.lt_of_lt_of_le y3 a4.size
  have N4 : w.heap.size ≠ k4 := by rcases hk4 with h | h <;> omega
  have A4 := aside_next A3 K3.out a4
  have K4 := hide (next_own K3.out hk4 A3.size)
  have HO4 := hide o4
  clear s0 s1 s2 s3 s4 s5 o4 a4 hk4 A3 K3 HO3 N3 y3 P3
  have s0 := cell_of P4 0
  have s1 := cell_of P4 1
  have s2 := cell_of P4 2
  have s3 := cell_of P4 3
  have s4 := cell_of P4 4
  have s5 := cell_of P4 5
  simp at s0 s1 s2 s3 s4 s5
  subst ee
  go_wp2_with fail
  refine (put57_any HO4.out (by simp; omega) 11 0 0 0 0 0).mono ?_
  rintro e w5 h5
  obtain ⟨ee, ⟨k5, v5, o5, hk5⟩, a5⟩ := h5
  have P5 := (a5.block _ (lt_of P4) (by simp; omega)).trans P4
  have y5 := Nat.lt_of_lt_of_le y4 a5.size
  have N5 : w.heap.size ≠ k5 := by rcases hk5 with h | h <;> omega
  have A5 := aside_next A4 K4.out a5
  have K5 := hide (next_own K4.out hk5 A4.size)
  have HO5 := hide o5
  clear s0 s1 s2 s3 s4 s5 o5 a5 hk5 A4 K4 HO4 N4 y4 P4
  have s0 := cell_of P5 0
  have s1 := cell_of P5 1
  have s2 := cell_of P5 2
  have s3 := cell_of P5 3
  have s4 := cell_of P5 4
  have s5 := cell_of P5 5
  simp at s0 s1 s2 s3 s4 s5
  subst ee
  have HN := hide (show EO w5 cb k5 v5 _ by have := HO5.out; (try simp only [List.append_assoc, List.cons_append, List.nil_append] at this); exact this)
  clear HO5 N5 y5 P5
  go_wp2
  exact bodyPost_end (v := .tuple #[]) (by simp [results, Tryd.results27]) rfl ⟨rfl, ⟨k5, v5, HN.out, K5.out⟩, A5⟩
set_option maxHeartbeats 16000000 in
theorem step3_any {w : World} {cb k : Nat} {v : Value} {C : List Cd.In} (h : EO w cb k v C) (hlen : C.length ≤ 400000) (kk n t : Int) {okE : Nat → Prop} {aF aE : Option Addr} {cF cE : Nat} {F E : List Pu} (hF : HPu okE w (.slice aF F.length cF) F) (hE : HPu okE w (.slice aE E.length cE) E) (hok : ∀ i, okE i → i ≠ cb ∧ i ≠ k) {c m m2 : Int} (hf : Lo.Fit c m E) (hfF : Lo.Fit c m2 F) (ht : 0 ≤ n) : Calls Tryd.prog 27 #[.pointer (some ⟨cb, 0, none⟩), .agg #[.int .i64 3, .int .i64 kk, .int .i64 n, .int .i64 t, .slice aF F.length cF, .slice aE E.length cE]] w (EP w cb k (C ++ ((Em.et F 2 0 ++ [(⟨9, 0, 1, 2, 0, 0⟩ : Cd.In)]) ++ ((⟨10, 0, 0, 0, 0, n⟩ : Cd.In) :: ((Em.et E 2 n ++ [⟨7, kk, 1, 1, 2, 0⟩]) ++ [⟨11, 0, 0, 0, 0, 0⟩, ⟨4, 0, 1, 0, 0, t⟩]))))) := by
  have hcb := lt_of h.m
  have hk := h.lt
  have hE0 := hE.wide (ok' := fun i => okE i ∧ i < w.heap.size) (fun i h1 h2 => ⟨h1, h2⟩)
  have hF0 := hF.wide (ok' := fun i => okE i ∧ i < w.heap.size) (fun i h1 h2 => ⟨h1, h2⟩)
  have b1 : Below w.heap.size w (w.alloc (.cells #[.int .i64 3, .int .i64 kk, .int .i64 n, .int .i64 t, .slice aF F.length cF, .slice aE E.length cE] 62 (0, 0))) := (Below.refl _ _).alloc (Nat.le_refl _) _
  have P1 := heap_new w (.cells #[.int .i64 3, .int .i64 kk, .int .i64 n, .int .i64 t, .slice aF F.length cF, .slice aE E.length cE] 62 (0, 0))
  have HTE := hide (fun W k1 v1 C1 (o : EO W cb k1 v1 C1) (hk1 : k1 = k ∨ w.heap.size ≤ k1) (hl1 : C1.length ≤ 700000) (a : Aside [cb, k] w.heap.size w W) => tree56_any (tn := n) o hl1 (hE0.aside a (fun i hi => by have := hok i hi.1; simp; exact this)) (far_own hok hk1) hf ht)
  have hlE := et_len hf n
  have HTF := hide (fun W k1 v1 C1 (o : EO W cb k1 v1 C1) (hk1 : k1 = k ∨ w.heap.size ≤ k1) (hl1 : C1.length ≤ 700000) (a : Aside [cb, k] w.heap.size w W) => tree56_any (tn := 0) o hl1 (hF0.aside a (fun i hi => by have := hok i hi.1; simp; exact this)) (far_own hok hk1) hfF (Int.le_refl 0))
  have hlF := et_len hfF 0
  have HO1 := hide (h.under b1)
  generalize E.length = ne at HTE b1 P1 HO1 ⊢
  generalize F.length = nf at HTF b1 P1 HO1 ⊢
  generalize Em.et E 2 n = Y at HTE hlE ⊢
  generalize Em.et F 2 0 = Z at HTF hlF ⊢
  try simp only [List.append_assoc, List.cons_append, List.nil_append]
  clear h hF hE hE0 hF0 hfF hf hok
  go_enter Tryd.func27, Tryd.ntmps27
  go_upto_region 1 with fail
  generalize w.alloc (.cells #[.int .i64 3, .int .i64 kk, .int .i64 n, .int .i64 t, .slice aF nf cF, .slice aE ne cE] 62 (0, 0)) = w1 at b1 P1 HO1 ⊢
  have s0 := cell_of P1 0
  have s1 := cell_of P1 1
  have s2 := cell_of P1 2
  have s3 := cell_of P1 3
  have s4 := cell_of P1 4
  have s5 := cell_of P1 5
  simp at s0 s1 s2 s3 s4 s5
  have y1 := lt_of P1
  have A1 : Aside [cb, k] w.heap.size w w1 := aside b1
  have N1 : w.heap.size ≠ k := by omega
  have N0 : w.heap.size ≠ cb := by omega
  go_wp2_with fail
  refine (HTF.out _ _ _ _ HO1.out (.inl rfl) (by omega) A1).mono ?_
  rintro e w2 h2
  obtain ⟨ee, ⟨k2, v2, o2, hk2⟩, a2⟩ := h2
  have P2 := (a2.block _ (lt_of P1) (by simp; omega)).trans P1
  have y2 := Nat.lt_of_lt_of_le y1 a2.size
  have N2 : w.heap.size ≠ k2 := by rcases hk2 with h | h <;> omega
  have A2 := aside_next A1 (.inl rfl) a2
  have K2 := hide (next_own (.inl rfl) hk2 A1.size)
  have HO2 := hide o2
  clear s0 s1 s2 s3 s4 s5 o2 a2 hk2 A1  HO1 N1 y1 P1
  have s0 := cell_of P2 0
  have s1 := cell_of P2 1
  have s2 := cell_of P2 2
  have s3 := cell_of P2 3
  have s4 := cell_of P2 4
  have s5 := cell_of P2 5
  simp at s0 s1 s2 s3 s4 s5
  subst ee
  go_wp2_with fail
  refine (put57_any HO2.out (by simp; omega) 9 0 1 2 0 0).mono ?_
  rintro e w3 h3
  obtain ⟨ee, ⟨k3, v3, o3, hk3⟩, a3⟩ := h3
  have P3 := (a3.block _ (lt_of P2) (by simp; omega)).trans P2
  have y3 := Nat.lt_of_lt_of_le y2 a3.size
  have N3 : w.heap.size ≠ k3 := by rcases hk3 with h | h <;> omega
  have A3 := aside_next A2 K2.out a3
  have K3 := hide (next_own K2.out hk3 A2.size)
  have HO3 := hide o3
  clear s0 s1 s2 s3 s4 s5 o3 a3 hk3 A2 K2 HO2 N2 y2 P2
  have s0 := cell_of P3 0
  have s1 := cell_of P3 1
  have s2 := cell_of P3 2
  have s3 := cell_of P3 3
  have s4 := cell_of P3 4
  have s5 := cell_of P3 5
  simp at s0 s1 s2 s3 s4 s5
  subst ee
  go_wp2_with fail
  refine (put57_any HO3.out (by simp; omega) 10 0 0 0 0 n).mono ?_
  rintro e w4 h4
  obtain ⟨ee, ⟨k4, v4, o4, hk4⟩, a4⟩ := h4
  have P4 := (a4.block _ (lt_of P3) (by simp; omega)).trans P3
  have y4 := Nat.lt_of_lt_of_le y3 a4.size
  have N4 : w.heap.size ≠ k4 := by rcases hk4 with h | h <;> omega
  have A4 := aside_next A3 K3.out a4
  have K4 := hide (next_own K3.out hk4 A3.size)
  have HO4 := hide o4
  clear s0 s1 s2 s3 s4 s5 o4 a4 hk4 A3 K3 HO3 N3 y3 P3
  have s0 := cell_of P4 0
  have s1 := cell_of P4 1
  have s2 := cell_of P4 2
  have s3 := cell_of P4 3
  have s4 := cell_of P4 4
  have s5 := cell_of P4 5
  simp at s0 s1 s2 s3 s4 s5
  subst ee
  go_wp2_with fail
  refine (HTE.out _ _ _ _ HO4.out K4.out (by simp; omega) A4).mono ?_
  rintro e w5 h5
  obtain ⟨ee, ⟨k5, v5, o5, hk5⟩, a5⟩ := h5
  have P5 := (a5.block _ (lt_of P4) (by simp; omega)).trans P4
  have y5 := Nat.lt_of_lt_of_le y4 a5.size
  have N5 : w.heap.size ≠ k5 := by rcases hk5 with h | h <;> omega
  have A5 := aside_next A4 K4.out a5
  have K5 := hide (next_own K4.out hk5 A4.size)
  have HO5 := hide o5
  clear s0 s1 s2 s3 s4 s5 o5 a5 hk5 A4 K4 HO4 N4 y4 P4
  have s0 := cell_of P5 0
  have s1 := cell_of P5 1
  have s2 := cell_of P5 2
  have s3 := cell_of P5 3
  have s4 := cell_of P5 4
  have s5 := cell_of P5 5
  simp at s0 s1 s2 s3 s4 s5
  subst ee
  go_wp2_with fail
  refine (put57_any HO5.out (by simp; omega) 7 kk 1 1 2 0).mono ?_
  rintro e w6 h6
  obtain ⟨ee, ⟨k6, v6, o6, hk6⟩, a6⟩ := h6
  have P6 := (a6.block _ (lt_of P5) (by simp; omega)).trans P5
  have y6 := Nat.lt_of_lt_of_le y5 a6.size
  have N6 : w.heap.size ≠ k6 := by rcases hk6 with h | h <;> omega
  have A6 := aside_next A5 K5.out a6
  have K6 := hide (next_own K5.out hk6 A5.size)
  have HO6 := hide o6
  clear s0 s1 s2 s3 s4 s5 o6 a6 hk6 A5 K5 HO5 N5 y5 P5
  have s0 := cell_of P6 0
  have s1 := cell_of P6 1
  have s2 := cell_of P6 2
  have s3 := cell_of P6 3
  have s4 := cell_of P6 4
  have s5 := cell_of P6 5
  simp at s0 s1 s2 s3 s4 s5
  subst ee
  go_wp2_with fail
  refine (put57_any HO6.out (by simp; omega) 11 0 0 0 0 0).mono ?_
  rintro e w7 h7
  obtain ⟨ee, ⟨k7, v7, o7, hk7⟩, a7⟩ := h7
  have P7 := (a7.block _ (lt_of P6) (by simp; omega)).trans P6
  have y7 := Nat.lt_of_lt_of_le y6 a7.size
  have N7 : w.heap.size ≠ k7 := by rcases hk7 with h | h <;> omega
  have A7 := aside_next A6 K6.out a7
  have K7 := hide (next_own K6.out hk7 A6.size)
  have HO7 := hide o7
  clear s0 s1 s2 s3 s4 s5 o7 a7 hk7 A6 K6 HO6 N6 y6 P6
  have s0 := cell_of P7 0
  have s1 := cell_of P7 1
  have s2 := cell_of P7 2
  have s3 := cell_of P7 3
  have s4 := cell_of P7 4
  have s5 := cell_of P7 5
  simp at s0 s1 s2 s3 s4 s5
  subst ee
  go_wp2_with fail
  refine (put57_any HO7.out (by simp; omega) 4 0 1 0 0 t).mono ?_
  rintro e w8 h8
  obtain ⟨ee, ⟨k8, v8, o8, hk8⟩, a8⟩ := h8
  have P8 := (a8.block _ (lt_of P7) (by simp; omega)).trans P7
  have y8 := Nat.lt_of_lt_of_le y7 a8.size
  have N8 : w.heap.size ≠ k8 := by rcases hk8 with h | h <;> omega
  have A8 := aside_next A7 K7.out a8
  have K8 := hide (next_own K7.out hk8 A7.size)
  have HO8 := hide o8
  clear s0 s1 s2 s3 s4 s5 o8 a8 hk8 A7 K7 HO7 N7 y7 P7
  have s0 := cell_of P8 0
  have s1 := cell_of P8 1
  have s2 := cell_of P8 2
  have s3 := cell_of P8 3
  have s4 := cell_of P8 4
  have s5 := cell_of P8 5
  simp at s0 s1 s2 s3 s4 s5
  subst ee
  have HN := hide (show EO w8 cb k8 v8 _ by have := HO8.out; (try simp only [List.append_assoc, List.cons_append, List.nil_append] at this); exact this)
  clear HO8 N8 y8 P8
  go_wp2
  exact bodyPost_end (v := .tuple #[]) (by simp [results, Tryd.results27]) rfl ⟨rfl, ⟨k8, v8, HN.out, K8.out⟩, A8⟩
set_option maxHeartbeats 16000000 in
theorem step4_any {w : World} {cb k : Nat} {v : Value} {C : List Cd.In} (h : EO w cb k v C) (hlen : C.length ≤ 400000) (kk n t : Int) {okE : Nat → Prop} {aF aE : Option Addr} {cF cE : Nat} {F E : List Pu} (hF : HPu okE w (.slice aF F.length cF) F) (hE : HPu okE w (.slice aE E.length cE) E) (hok : ∀ i, okE i → i ≠ cb ∧ i ≠ k) {c m m2 : Int} (hf : Lo.Fit c m E) (hfF : Lo.Fit c m2 F) (ht : 0 ≤ n) : Calls Tryd.prog 27 #[.pointer (some ⟨cb, 0, none⟩), .agg #[.int .i64 4, .int .i64 kk, .int .i64 n, .int .i64 t, .slice aF F.length cF, .slice aE E.length cE]] w (EP w cb k (C ++ ((Em.et F 2 0 ++ [(⟨9, 0, 1, 2, 0, 0⟩ : Cd.In)]) ++ ((⟨10, 0, 0, 0, 0, n⟩ : Cd.In) :: ((Em.et E 2 n ++ [⟨7, kk, 1, 1, 2, 0⟩, ⟨5, 0, 1, 0, n, t⟩]) ++ [⟨11, 0, 0, 0, 0, 0⟩]))))) := by
  have hcb := lt_of h.m
  have hk := h.lt
  have hE0 := hE.wide (ok' := fun i => okE i ∧ i < w.heap.size) (fun i h1 h2 => ⟨h1, h2⟩)
  have hF0 := hF.wide (ok' := fun i => okE i ∧ i < w.heap.size) (fun i h1 h2 => ⟨h1, h2⟩)
  have b1 : Below w.heap.size w (w.alloc (.cells #[.int .i64 4, .int .i64 kk, .int .i64 n, .int .i64 t, .slice aF F.length cF, .slice aE E.length cE] 62 (0, 0))) := (Below.refl _ _).alloc (Nat.le_refl _) _
  have P1 := heap_new w (.cells #[.int .i64 4, .int .i64 kk, .int .i64 n, .int .i64 t, .slice aF F.length cF, .slice aE E.length cE] 62 (0, 0))
  have HTE := hide (fun W k1 v1 C1 (o : EO W cb k1 v1 C1) (hk1 : k1 = k ∨ w.heap.size ≤ k1) (hl1 : C1.length ≤ 700000) (a : Aside [cb, k] w.heap.size w W) => tree56_any (tn := n) o hl1 (hE0.aside a (fun i hi => by have := hok i hi.1; simp; exact this)) (far_own hok hk1) hf ht)
  have hlE := et_len hf n
  have HTF := hide (fun W k1 v1 C1 (o : EO W cb k1 v1 C1) (hk1 : k1 = k ∨ w.heap.size ≤ k1) (hl1 : C1.length ≤ 700000) (a : Aside [cb, k] w.heap.size w W) => tree56_any (tn := 0) o hl1 (hF0.aside a (fun i hi => by have := hok i hi.1; simp; exact this)) (far_own hok hk1) hfF (Int.le_refl 0))
  have hlF := et_len hfF 0
  have HO1 := hide (h.under b1)
  generalize E.length = ne at HTE b1 P1 HO1 ⊢
  generalize F.length = nf at HTF b1 P1 HO1 ⊢
  generalize Em.et E 2 n = Y at HTE hlE ⊢
  generalize Em.et F 2 0 = Z at HTF hlF ⊢
  try simp only [List.append_assoc, List.cons_append, List.nil_append]
  clear h hF hE hE0 hF0 hfF hf hok
  go_enter Tryd.func27, Tryd.ntmps27
  go_upto_region 1 with fail
  generalize w.alloc (.cells #[.int .i64 4, .int .i64 kk, .int .i64 n, .int .i64 t, .slice aF nf cF, .slice aE ne cE] 62 (0, 0)) = w1 at b1 P1 HO1 ⊢
  have s0 := cell_of P1 0
  have s1 := cell_of P1 1
  have s2 := cell_of P1 2
  have s3 := cell_of P1 3
  have s4 := cell_of P1 4
  have s5 := cell_of P1 5
  simp at s0 s1 s2 s3 s4 s5
  have y1 := lt_of P1
  have A1 : Aside [cb, k] w.heap.size w w1 := aside b1
  have N1 : w.heap.size ≠ k := by omega
  have N0 : w.heap.size ≠ cb := by omega
  go_wp2_with fail
  refine (HTF.out _ _ _ _ HO1.out (.inl rfl) (by omega) A1).mono ?_
  rintro e w2 h2
  obtain ⟨ee, ⟨k2, v2, o2, hk2⟩, a2⟩ := h2
  have P2 := (a2.block _ (lt_of P1) (by simp; omega)).trans P1
  have y2 := Nat.lt_of_lt_of_le y1 a2.size
  have N2 : w.heap.size ≠ k2 := by rcases hk2 with h | h <;> omega
  have A2 := aside_next A1 (.inl rfl) a2
  have K2 := hide (next_own (.inl rfl) hk2 A1.size)
  have HO2 := hide o2
  clear s0 s1 s2 s3 s4 s5 o2 a2 hk2 A1  HO1 N1 y1 P1
  have s0 := cell_of P2 0
  have s1 := cell_of P2 1
  have s2 := cell_of P2 2
  have s3 := cell_of P2 3
  have s4 := cell_of P2 4
  have s5 := cell_of P2 5
  simp at s0 s1 s2 s3 s4 s5
  subst ee
  go_wp2_with fail
  refine (put57_any HO2.out (by simp; omega) 9 0 1 2 0 0).mono ?_
  rintro e w3 h3
  obtain ⟨ee, ⟨k3, v3, o3, hk3⟩, a3⟩ := h3
  have P3 := (a3.block _ (lt_of P2) (by simp; omega)).trans P2
  have y3 := Nat.lt_of_lt_of_le y2 a3.size
  have N3 : w.heap.size ≠ k3 := by rcases hk3 with h | h <;> omega
  have A3 := aside_next A2 K2.out a3
  have K3 := hide (next_own K2.out hk3 A2.size)
  have HO3 := hide o3
  clear s0 s1 s2 s3 s4 s5 o3 a3 hk3 A2 K2 HO2 N2 y2 P2
  have s0 := cell_of P3 0
  have s1 := cell_of P3 1
  have s2 := cell_of P3 2
  have s3 := cell_of P3 3
  have s4 := cell_of P3 4
  have s5 := cell_of P3 5
  simp at s0 s1 s2 s3 s4 s5
  subst ee
  go_wp2_with fail
  refine (put57_any HO3.out (by simp; omega) 10 0 0 0 0 n).mono ?_
  rintro e w4 h4
  obtain ⟨ee, ⟨k4, v4, o4, hk4⟩, a4⟩ := h4
  have P4 := (a4.block _ (lt_of P3) (by simp; omega)).trans P3
  have y4 := Nat.lt_of_lt_of_le y3 a4.size
  have N4 : w.heap.size ≠ k4 := by rcases hk4 with h | h <;> omega
  have A4 := aside_next A3 K3.out a4
  have K4 := hide (next_own K3.out hk4 A3.size)
  have HO4 := hide o4
  clear s0 s1 s2 s3 s4 s5 o4 a4 hk4 A3 K3 HO3 N3 y3 P3
  have s0 := cell_of P4 0
  have s1 := cell_of P4 1
  have s2 := cell_of P4 2
  have s3 := cell_of P4 3
  have s4 := cell_of P4 4
  have s5 := cell_of P4 5
  simp at s0 s1 s2 s3 s4 s5
  subst ee
  go_wp2_with fail
  refine (HTE.out _ _ _ _ HO4.out K4.out (by simp; omega) A4).mono ?_
  rintro e w5 h5
  obtain ⟨ee, ⟨k5, v5, o5, hk5⟩, a5⟩ := h5
  have P5 := (a5.block _ (lt_of P4) (by simp; omega)).trans P4
  have y5 := Nat.lt_of_lt_of_le y4 a5.size
  have N5 : w.heap.size ≠ k5 := by rcases hk5 with h | h <;> omega
  have A5 := aside_next A4 K4.out a5
  have K5 := hide (next_own K4.out hk5 A4.size)
  have HO5 := hide o5
  clear s0 s1 s2 s3 s4 s5 o5 a5 hk5 A4 K4 HO4 N4 y4 P4
  have s0 := cell_of P5 0
  have s1 := cell_of P5 1
  have s2 := cell_of P5 2
  have s3 := cell_of P5 3
  have s4 := cell_of P5 4
  have s5 := cell_of P5 5
  simp at s0 s1 s2 s3 s4 s5
  subst ee
  go_wp2_with fail
  refine (put57_any HO5.out (by simp; omega) 7 kk 1 1 2 0).mono ?_
  rintro e w6 h6
  obtain ⟨ee, ⟨k6, v6, o6, hk6⟩, a6⟩ := h6
  have P6 := (a6.block _ (lt_of P5) (by simp; omega)).trans P5
  have y6 := Nat.lt_of_lt_of_le y5 a6.size
  have N6 : w.heap.size ≠ k6 := by rcases hk6 with h | h <;> omega
  have A6 := aside_next A5 K5.out a6
  have K6 := hide (next_own K5.out hk6 A5.size)
  have HO6 := hide o6
  clear s0 s1 s2 s3 s4 s5 o6 a6 hk6 A5 K5 HO5 N5 y5 P5
  have s0 := cell_of P6 0
  have s1 := cell_of P6 1
  have s2 := cell_of P6 2
  have s3 := cell_of P6 3
  have s4 := cell_of P6 4
  have s5 := cell_of P6 5
  simp at s0 s1 s2 s3 s4 s5
  subst ee
  go_wp2_with fail
  refine (put57_any HO6.out (by simp; omega) 5 0 1 0 n t).mono ?_
  rintro e w7 h7
  obtain ⟨ee, ⟨k7, v7, o7, hk7⟩, a7⟩ := h7
  have P7 := (a7.block _ (lt_of P6) (by simp; omega)).trans P6
  have y7 := Nat.lt_of_lt_of_le y6 a7.size
  have N7 : w.heap.size ≠ k7 := by rcases hk7 with h | h <;> omega
  have A7 := aside_next A6 K6.out a7
  have K7 := hide (next_own K6.out hk7 A6.size)
  have HO7 := hide o7
  clear s0 s1 s2 s3 s4 s5 o7 a7 hk7 A6 K6 HO6 N6 y6 P6
  have s0 := cell_of P7 0
  have s1 := cell_of P7 1
  have s2 := cell_of P7 2
  have s3 := cell_of P7 3
  have s4 := cell_of P7 4
  have s5 := cell_of P7 5
  simp at s0 s1 s2 s3 s4 s5
  subst ee
  go_wp2_with fail
  refine (put57_any HO7.out (by simp; omega) 11 0 0 0 0 0).mono ?_
  rintro e w8 h8
  obtain ⟨ee, ⟨k8, v8, o8, hk8⟩, a8⟩ := h8
  have P8 := (a8.block _ (lt_of P7) (by simp; omega)).trans P7
  have y8 := Nat.lt_of_lt_of_le y7 a8.size
  have N8 : w.heap.size ≠ k8 := by rcases hk8 with h | h <;> omega
  have A8 := aside_next A7 K7.out a8
  have K8 := hide (next_own K7.out hk8 A7.size)
  have HO8 := hide o8
  clear s0 s1 s2 s3 s4 s5 o8 a8 hk8 A7 K7 HO7 N7 y7 P7
  have s0 := cell_of P8 0
  have s1 := cell_of P8 1
  have s2 := cell_of P8 2
  have s3 := cell_of P8 3
  have s4 := cell_of P8 4
  have s5 := cell_of P8 5
  simp at s0 s1 s2 s3 s4 s5
  subst ee
  have HN := hide (show EO w8 cb k8 v8 _ by have := HO8.out; (try simp only [List.append_assoc, List.cons_append, List.nil_append] at this); exact this)
  clear HO8 N8 y8 P8
  go_wp2
  exact bodyPost_end (v := .tuple #[]) (by simp [results, Tryd.results27]) rfl ⟨rfl, ⟨k8, v8, HN.out, K8.out⟩, A8⟩
/-- the code of a step of loops -/
theorem step27_any {w : World} {cb k : Nat} {v : Value} {C : List Cd.In} (h : EO w cb k v C) (hlen : C.length ≤ 400000) {okE : Nat → Prop} {aF aE : Option Addr} {cF cE : Nat} {c : Int} (s : Lo.Sp) (hs : Lo.Ok c s) (hF : HPu okE w (.slice aF s.F.length cF) s.F) (hE : HPu okE w (.slice aE s.E.length cE) s.E) (hok : ∀ i, okE i → i ≠ cb ∧ i ≠ k) :
    Calls Tryd.prog 27 #[.pointer (some ⟨cb, 0, none⟩), .agg #[.int .i64 s.op, .int .i64 s.k, .int .i64 s.n, .int .i64 s.tgt, .slice aF s.F.length cF, .slice aE s.E.length cE]] w (EP w cb k (C ++ Em.es s)) := by
  obtain ⟨op, kk, n, t, F, E⟩ := s
  have hop := hs.op
  have hn := hs.n
  have hfE := hs.E
  have hfF := hs.F
  dsimp only at hop hn hfE hfF hF hE ⊢
  by_cases o1 : op = 1
  · subst o1
    exact step1_any h hlen kk n t hF hE hok hfE
  by_cases o2 : op = 2
  · subst o2
    have e : Em.es ⟨2, kk, n, t, F, E⟩ = (⟨10, 0, 0, 0, 0, n⟩ : Cd.In) :: ((Em.et E 2 n ++ [⟨5, 0, 2, 0, n, t⟩]) ++ [⟨11, 0, 0, 0, 0, 0⟩]) := by simp [Em.es, Em.mid]
    rw [e]
    exact step2_any h hlen kk n t hF hE hok hfE (by have := hn o1; omega)
  by_cases o3 : op = 3
  · subst o3
    have e : Em.es ⟨3, kk, n, t, F, E⟩ = ((Em.et F 2 0 ++ [(⟨9, 0, 1, 2, 0, 0⟩ : Cd.In)]) ++ ((⟨10, 0, 0, 0, 0, n⟩ : Cd.In) :: ((Em.et E 2 n ++ [⟨7, kk, 1, 1, 2, 0⟩]) ++ [⟨11, 0, 0, 0, 0, 0⟩, ⟨4, 0, 1, 0, 0, t⟩]))) := by simp [Em.es, Em.mid]
    rw [e]
    exact step3_any h hlen kk n t hF hE hok hfE (hfF (.inl rfl)) (by have := hn o1; omega)
  have o4 : op = 4 := by omega
  subst o4
  have e : Em.es ⟨4, kk, n, t, F, E⟩ = ((Em.et F 2 0 ++ [(⟨9, 0, 1, 2, 0, 0⟩ : Cd.In)]) ++ ((⟨10, 0, 0, 0, 0, n⟩ : Cd.In) :: ((Em.et E 2 n ++ [⟨7, kk, 1, 1, 2, 0⟩, ⟨5, 0, 1, 0, n, t⟩]) ++ [⟨11, 0, 0, 0, 0, 0⟩]))) := by simp [Em.es, Em.mid]
  rw [e]
  exact step4_any h hlen kk n t hF hE hok hfE (hfF (.inr rfl)) (by have := hn o1; omega)
end Go.Proofs.YtbiomnnlpafciaaDoor
