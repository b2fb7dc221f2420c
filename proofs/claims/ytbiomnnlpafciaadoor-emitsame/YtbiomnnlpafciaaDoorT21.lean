import Derived.Test.YtbiomnnlpafciaaDoorT20
import Derived.WalkKit
import Derived.WalkSpells
import Derived.IntWalk
import Derived.Deep.Cut
import Derived.Deep.LoopGhost
import Derived.Laws.Cover1
import Derived.Lib.Hide
set_option linter.unusedVariables false
set_option linter.unusedSimpArgs false
set_option maxHeartbeats 64000000
set_option maxRecDepth 100000
namespace Go.Proofs.YtbiomnnlpafciaaDoor
open Go.RowKit Go.IntWalk
set_option linter.unusedVariables false
set_option linter.unusedSimpArgs false
theorem CP.none {w : World} {cb k : Nat} {v : Value} {C : List Cd.In} {R : Int} (h : CO w cb k v C R) {w' : World} (b : Below w.heap.size w w') : CP w cb k C R (.returned (.tuple #[])) w' := ⟨rfl, ⟨k, v, h.under b, .inl rfl⟩, aside b⟩
set_option maxHeartbeats 8000000 in
theorem addPush1_any {w : World} {cb k : Nat} {v : Value} {C : List Cd.In} {R : Int} (h : CO w cb k v C R) (hlen : C.length ≤ 800000) (kk vv n r tn : Int) (hr : 0 ≤ r ∧ r ≤ 900) : Calls Tryd.prog 71 #[.pointer (some ⟨cb, 0, none⟩), .agg #[.int .i64 1, .int .i64 kk, .int .i64 vv, .int .i64 n], .int .i64 r, .int .i64 tn] w (CP w cb k (C ++ [(⟨1, 0, r, 0, 0, n⟩ : Cd.In)]) (Em.rg R [(⟨1, 0, r, 0, 0, n⟩ : Cd.In)])) := by
  have b1 : Below w.heap.size w (w.alloc (.cells #[.int .i64 1, .int .i64 kk, .int .i64 vv, .int .i64 n] 59 (0, 0))) := (Below.refl _ _).alloc (Nat.le_refl _) _
  have kP := heap_new w (.cells #[.int .i64 1, .int .i64 kk, .int .i64 vv, .int .i64 n] 59 (0, 0))
  go_enter Tryd.func71, Tryd.ntmps71
  go_upto_region 1 with fail
  generalize w.alloc (.cells #[.int .i64 1, .int .i64 kk, .int .i64 vv, .int .i64 n] 59 (0, 0)) = w1 at b1 kP ⊢
  have p0 := cell_of kP 0
  have p1 := cell_of kP 1
  have p2 := cell_of kP 2
  have p3 := cell_of kP 3
  simp at p0 p1 p2 p3
  have HH := hide h
  clear kP h
  go_wp2_with fail
  refine (addOne HH.out (by omega) _ b1 1 0 r 0 0 n (by omega)).mono ?_
  rintro e w3 ⟨rfl, ho, ha⟩
  go_wp2
  exact bodyPost_end (v := .tuple #[]) (by simp [results, Tryd.results71]) rfl ⟨rfl, ho, ha⟩
set_option maxHeartbeats 8000000 in
theorem addPush2_any {w : World} {cb k : Nat} {v : Value} {C : List Cd.In} {R : Int} (h : CO w cb k v C R) (hlen : C.length ≤ 800000) (kk vv n r tn : Int) (hr : 0 ≤ r ∧ r ≤ 900) : Calls Tryd.prog 71 #[.pointer (some ⟨cb, 0, none⟩), .agg #[.int .i64 2, .int .i64 kk, .int .i64 vv, .int .i64 n], .int .i64 r, .int .i64 tn] w (CP w cb k (C ++ [(⟨2, 0, r, 0, 0, vv⟩ : Cd.In)]) (Em.rg R [(⟨2, 0, r, 0, 0, vv⟩ : Cd.In)])) := by
  have b1 : Below w.heap.size w (w.alloc (.cells #[.int .i64 2, .int .i64 kk, .int .i64 vv, .int .i64 n] 59 (0, 0))) := (Below.refl _ _).alloc (Nat.le_refl _) _
  have kP := heap_new w (.cells #[.int .i64 2, .int .i64 kk, .int .i64 vv, .int .i64 n] 59 (0, 0))
  go_enter Tryd.func71, Tryd.ntmps71
  go_upto_region 1 with fail
  generalize w.alloc (.cells #[.int .i64 2, .int .i64 kk, .int .i64 vv, .int .i64 n] 59 (0, 0)) = w1 at b1 kP ⊢
  have p0 := cell_of kP 0
  have p1 := cell_of kP 1
  have p2 := cell_of kP 2
  have p3 := cell_of kP 3
  simp at p0 p1 p2 p3
  have HH := hide h
  clear kP h
  go_wp2_with fail
  refine (addOne HH.out (by omega) _ b1 2 0 r 0 0 vv (by omega)).mono ?_
  rintro e w3 ⟨rfl, ho, ha⟩
  go_wp2
  exact bodyPost_end (v := .tuple #[]) (by simp [results, Tryd.results71]) rfl ⟨rfl, ho, ha⟩
set_option maxHeartbeats 8000000 in
theorem addPush5_any {w : World} {cb k : Nat} {v : Value} {C : List Cd.In} {R : Int} (h : CO w cb k v C R) (hlen : C.length ≤ 800000) (kk vv n r tn : Int) (hr : 0 ≤ r ∧ r ≤ 900) : Calls Tryd.prog 71 #[.pointer (some ⟨cb, 0, none⟩), .agg #[.int .i64 5, .int .i64 kk, .int .i64 vv, .int .i64 n], .int .i64 r, .int .i64 tn] w (CP w cb k (C ++ [(⟨6, kk, r, r, 0, 0⟩ : Cd.In)]) (Em.rg R [(⟨6, kk, r, r, 0, 0⟩ : Cd.In)])) := by
  have b1 : Below w.heap.size w (w.alloc (.cells #[.int .i64 5, .int .i64 kk, .int .i64 vv, .int .i64 n] 59 (0, 0))) := (Below.refl _ _).alloc (Nat.le_refl _) _
  have kP := heap_new w (.cells #[.int .i64 5, .int .i64 kk, .int .i64 vv, .int .i64 n] 59 (0, 0))
  go_enter Tryd.func71, Tryd.ntmps71
  go_upto_region 1 with fail
  generalize w.alloc (.cells #[.int .i64 5, .int .i64 kk, .int .i64 vv, .int .i64 n] 59 (0, 0)) = w1 at b1 kP ⊢
  have p0 := cell_of kP 0
  have p1 := cell_of kP 1
  have p2 := cell_of kP 2
  have p3 := cell_of kP 3
  simp at p0 p1 p2 p3
  have HH := hide h
  clear kP h
  go_wp2_with fail
  refine (addOne HH.out (by omega) _ b1 6 kk r r 0 0 (by omega)).mono ?_
  rintro e w3 ⟨rfl, ho, ha⟩
  go_wp2
  exact bodyPost_end (v := .tuple #[]) (by simp [results, Tryd.results71]) rfl ⟨rfl, ho, ha⟩
set_option maxHeartbeats 8000000 in
theorem addPush6_any {w : World} {cb k : Nat} {v : Value} {C : List Cd.In} {R : Int} (h : CO w cb k v C R) (hlen : C.length ≤ 800000) (kk vv n r tn : Int) (hr : 0 ≤ r ∧ r ≤ 900) : Calls Tryd.prog 71 #[.pointer (some ⟨cb, 0, none⟩), .agg #[.int .i64 6, .int .i64 kk, .int .i64 vv, .int .i64 n], .int .i64 r, .int .i64 tn] w (CP w cb k (C ++ [(⟨7, kk, r, r, (r + 1), 0⟩ : Cd.In)]) (Em.rg R [(⟨7, kk, r, r, (r + 1), 0⟩ : Cd.In)])) := by
  have b1 : Below w.heap.size w (w.alloc (.cells #[.int .i64 6, .int .i64 kk, .int .i64 vv, .int .i64 n] 59 (0, 0))) := (Below.refl _ _).alloc (Nat.le_refl _) _
  have kP := heap_new w (.cells #[.int .i64 6, .int .i64 kk, .int .i64 vv, .int .i64 n] 59 (0, 0))
  go_enter Tryd.func71, Tryd.ntmps71
  go_upto_region 1 with fail
  generalize w.alloc (.cells #[.int .i64 6, .int .i64 kk, .int .i64 vv, .int .i64 n] 59 (0, 0)) = w1 at b1 kP ⊢
  have p0 := cell_of kP 0
  have p1 := cell_of kP 1
  have p2 := cell_of kP 2
  have p3 := cell_of kP 3
  simp at p0 p1 p2 p3
  have HH := hide h
  clear kP h
  have u1 : IntKind.i64.wrap (r + 1) = r + 1 := i64_in (r + 1) (by omega)
  go_wp2_with fail
  refine (addOne HH.out (by omega) _ b1 7 kk r r (r + 1) 0 (by omega)).mono ?_
  rintro e w3 ⟨rfl, ho, ha⟩
  go_wp2
  exact bodyPost_end (v := .tuple #[]) (by simp [results, Tryd.results71]) rfl ⟨rfl, ho, ha⟩
set_option maxHeartbeats 8000000 in
theorem addPush7_any {w : World} {cb k : Nat} {v : Value} {C : List Cd.In} {R : Int} (h : CO w cb k v C R) (hlen : C.length ≤ 800000) (kk vv n r tn : Int) (hr : 0 ≤ r ∧ r ≤ 900) : Calls Tryd.prog 71 #[.pointer (some ⟨cb, 0, none⟩), .agg #[.int .i64 7, .int .i64 kk, .int .i64 vv, .int .i64 n], .int .i64 r, .int .i64 tn] w (CP w cb k (C ++ [(⟨8, 0, r, (r + 1), (r + 2), 0⟩ : Cd.In)]) (Em.rg R [(⟨8, 0, r, (r + 1), (r + 2), 0⟩ : Cd.In)])) := by
  have b1 : Below w.heap.size w (w.alloc (.cells #[.int .i64 7, .int .i64 kk, .int .i64 vv, .int .i64 n] 59 (0, 0))) := (Below.refl _ _).alloc (Nat.le_refl _) _
  have kP := heap_new w (.cells #[.int .i64 7, .int .i64 kk, .int .i64 vv, .int .i64 n] 59 (0, 0))
  go_enter Tryd.func71, Tryd.ntmps71
  go_upto_region 1 with fail
  generalize w.alloc (.cells #[.int .i64 7, .int .i64 kk, .int .i64 vv, .int .i64 n] 59 (0, 0)) = w1 at b1 kP ⊢
  have p0 := cell_of kP 0
  have p1 := cell_of kP 1
  have p2 := cell_of kP 2
  have p3 := cell_of kP 3
  simp at p0 p1 p2 p3
  have HH := hide h
  clear kP h
  have u1 : IntKind.i64.wrap (r + 1) = r + 1 := i64_in (r + 1) (by omega)
  have u2 : IntKind.i64.wrap (r + 2) = r + 2 := i64_in (r + 2) (by omega)
  go_wp2_with fail
  refine (addOne HH.out (by omega) _ b1 8 0 r (r + 1) (r + 2) 0 (by omega)).mono ?_
  rintro e w3 ⟨rfl, ho, ha⟩
  go_wp2
  exact bodyPost_end (v := .tuple #[]) (by simp [results, Tryd.results71]) rfl ⟨rfl, ho, ha⟩
set_option maxHeartbeats 8000000 in
theorem addPush3_any {w : World} {cb k : Nat} {v : Value} {C : List Cd.In} {R : Int} (h : CO w cb k v C R) (hlen : C.length ≤ 800000) (kk vv n r tn : Int) (hr : 0 ≤ r ∧ r ≤ 900) (z : Int) (hz : z = if tn = 0 then 2 else 3) : Calls Tryd.prog 71 #[.pointer (some ⟨cb, 0, none⟩), .agg #[.int .i64 3, .int .i64 kk, .int .i64 vv, .int .i64 n], .int .i64 r, .int .i64 tn] w (CP w cb k (C ++ [(⟨z, 0, r, 0, tn, vv⟩ : Cd.In)]) (Em.rg R [(⟨z, 0, r, 0, tn, vv⟩ : Cd.In)])) := by
  have H83 := hide (fun W => by have h8 := cellOfTurn83_any 3 kk vv n r tn W; rw [← hz] at h8; exact h8)
  clear hz
  have b1 : Below w.heap.size w (w.alloc (.cells #[.int .i64 3, .int .i64 kk, .int .i64 vv, .int .i64 n] 59 (0, 0))) := (Below.refl _ _).alloc (Nat.le_refl _) _
  have kP := heap_new w (.cells #[.int .i64 3, .int .i64 kk, .int .i64 vv, .int .i64 n] 59 (0, 0))
  go_enter Tryd.func71, Tryd.ntmps71
  go_upto_region 1 with fail
  generalize w.alloc (.cells #[.int .i64 3, .int .i64 kk, .int .i64 vv, .int .i64 n] 59 (0, 0)) = w1 at b1 kP ⊢
  have p0 := cell_of kP 0
  have p1 := cell_of kP 1
  have p2 := cell_of kP 2
  have p3 := cell_of kP 3
  simp at p0 p1 p2 p3
  have HH := hide h
  clear kP h
  go_wp2_with fail
  refine (H83.out _).mono ?_
  rintro e w2 ⟨rfl, b2⟩
  have B2 := b1.trans (b2.mono b1.size)
  go_wp2_with fail
  refine (addOne HH.out (by omega) _ B2 z 0 r 0 tn vv (by omega)).mono ?_
  rintro e w3 ⟨rfl, ho, ha⟩
  go_wp2
  exact bodyPost_end (v := .tuple #[]) (by simp [results, Tryd.results71]) rfl ⟨rfl, ho, ha⟩
set_option maxHeartbeats 8000000 in
theorem addPush4a_any {w : World} {cb k : Nat} {v : Value} {C : List Cd.In} {R : Int} (h : CO w cb k v C R) (hlen : C.length ≤ 800000) (kk vv n r tn : Int) (hr : 0 ≤ r ∧ r ≤ 900) (ht : tn = 0) : Calls Tryd.prog 71 #[.pointer (some ⟨cb, 0, none⟩), .agg #[.int .i64 4, .int .i64 kk, .int .i64 vv, .int .i64 n], .int .i64 r, .int .i64 tn] w (CP w cb k (C ++ [(⟨1, 0, r, 0, 0, n⟩ : Cd.In)]) (Em.rg R [(⟨1, 0, r, 0, 0, n⟩ : Cd.In)])) := by
  have b1 : Below w.heap.size w (w.alloc (.cells #[.int .i64 4, .int .i64 kk, .int .i64 vv, .int .i64 n] 59 (0, 0))) := (Below.refl _ _).alloc (Nat.le_refl _) _
  have kP := heap_new w (.cells #[.int .i64 4, .int .i64 kk, .int .i64 vv, .int .i64 n] 59 (0, 0))
  go_enter Tryd.func71, Tryd.ntmps71
  go_upto_region 1 with fail
  generalize w.alloc (.cells #[.int .i64 4, .int .i64 kk, .int .i64 vv, .int .i64 n] 59 (0, 0)) = w1 at b1 kP ⊢
  have p0 := cell_of kP 0
  have p1 := cell_of kP 1
  have p2 := cell_of kP 2
  have p3 := cell_of kP 3
  simp at p0 p1 p2 p3
  have HH := hide h
  clear kP h
  subst ht
  go_wp2_with fail
  refine (addOne HH.out (by omega) _ b1 1 0 r 0 0 n (by omega)).mono ?_
  rintro e w3 ⟨rfl, ho, ha⟩
  go_wp2
  exact bodyPost_end (v := .tuple #[]) (by simp [results, Tryd.results71]) rfl ⟨rfl, ho, ha⟩
set_option maxHeartbeats 8000000 in
theorem addPush4b_any {w : World} {cb k : Nat} {v : Value} {C : List Cd.In} {R : Int} (h : CO w cb k v C R) (hlen : C.length ≤ 800000) (kk vv n r tn : Int) (hr : 0 ≤ r ∧ r ≤ 900) (ht : tn ≠ 0) : Calls Tryd.prog 71 #[.pointer (some ⟨cb, 0, none⟩), .agg #[.int .i64 4, .int .i64 kk, .int .i64 vv, .int .i64 n], .int .i64 r, .int .i64 tn] w (CP w cb k (C ++ [(⟨1, 0, r, 0, 0, n⟩ : Cd.In), ⟨7, 1, r, r, 0, 0⟩]) (Em.rg R [(⟨1, 0, r, 0, 0, n⟩ : Cd.In), ⟨7, 1, r, r, 0, 0⟩])) := by
  have b1 : Below w.heap.size w (w.alloc (.cells #[.int .i64 4, .int .i64 kk, .int .i64 vv, .int .i64 n] 59 (0, 0))) := (Below.refl _ _).alloc (Nat.le_refl _) _
  have kP := heap_new w (.cells #[.int .i64 4, .int .i64 kk, .int .i64 vv, .int .i64 n] 59 (0, 0))
  go_enter Tryd.func71, Tryd.ntmps71
  go_upto_region 1 with fail
  generalize w.alloc (.cells #[.int .i64 4, .int .i64 kk, .int .i64 vv, .int .i64 n] 59 (0, 0)) = w1 at b1 kP ⊢
  have p0 := cell_of kP 0
  have p1 := cell_of kP 1
  have p2 := cell_of kP 2
  have p3 := cell_of kP 3
  simp at p0 p1 p2 p3
  have HH := hide h
  clear kP h
  have g : (tn != 0) = true := by simpa using ht
  go_wp2_with fail
  refine (addOne HH.out (by omega) _ b1 1 0 r 0 0 n (by omega)).mono ?_
  rintro e w3 ⟨rfl, ⟨k3, v3, o3, hk3⟩, a3⟩
  have HO3 := hide o3
  clear o3 ht
  go_wp2_with fail
  refine (addOne HO3.out (by simp; omega) _ (Below.refl _ _) 7 1 r r 0 0 (by omega)).mono ?_
  rintro e w4 h4
  have h5 := CP.next a3 hk3 h4
  rw [List.append_assoc, ← Em.rg_app] at h5
  obtain ⟨rfl, ho, ha⟩ := h5
  go_wp2
  exact bodyPost_end (v := .tuple #[]) (by simp [results, Tryd.results71]) rfl ⟨rfl, ho, ha⟩
set_option maxHeartbeats 8000000 in
theorem addPush8_any {w : World} {cb k : Nat} {v : Value} {C : List Cd.In} {R : Int} (h : CO w cb k v C R) (hlen : C.length ≤ 800000) (kk vv n r tn : Int) (hr : 0 ≤ r ∧ r ≤ 900) : Calls Tryd.prog 71 #[.pointer (some ⟨cb, 0, none⟩), .agg #[.int .i64 8, .int .i64 kk, .int .i64 vv, .int .i64 n], .int .i64 r, .int .i64 tn] w (CP w cb k (C ++ (atI (r + 2) n vv)) (Em.rg R (atI (r + 2) n vv))) := by
  have b1 : Below w.heap.size w (w.alloc (.cells #[.int .i64 8, .int .i64 kk, .int .i64 vv, .int .i64 n] 59 (0, 0))) := (Below.refl _ _).alloc (Nat.le_refl _) _
  have kP := heap_new w (.cells #[.int .i64 8, .int .i64 kk, .int .i64 vv, .int .i64 n] 59 (0, 0))
  go_enter Tryd.func71, Tryd.ntmps71
  go_upto_region 1 with fail
  generalize w.alloc (.cells #[.int .i64 8, .int .i64 kk, .int .i64 vv, .int .i64 n] 59 (0, 0)) = w1 at b1 kP ⊢
  have p0 := cell_of kP 0
  have p1 := cell_of kP 1
  have p2 := cell_of kP 2
  have p3 := cell_of kP 3
  simp at p0 p1 p2 p3
  have HH := hide h
  clear kP h
  go_wp2_with fail
  refine (cellAtPlace84_any _ _ vv n r (r + 2) _ (by omega) rfl).mono ?_
  rintro e w2 ⟨a, rfl, ka, hla, b2⟩
  have B2 := b1.trans (b2.mono b1.size)
  have hx : HIns (fun i => i = a) w2 (.slice (some ⟨a, 0, none⟩) 11 11) (atI (r + 2) n vv) := row_of ka rfl rfl (by show 11 ≤ 1000; omega)
  have hla2 := Nat.le_trans b1.size hla
  have HX := hide hx
  clear ka hx hla
  go_wp2_with fail
  refine (add43_any (X := atI (r + 2) n vv) (HH.out.under B2) HX.out (fun i hi => by have := lt_of HH.out.m; have := HH.out.lt; omega) (by show C.length + 11 ≤ _; omega) (fun x hx => by
    simp only [atI, List.mem_cons, List.not_mem_nil, or_false] at hx
    rcases hx with rfl | rfl | rfl | rfl | rfl | rfl | rfl | rfl | rfl | rfl | rfl <;> dsimp only <;> omega)).mono ?_
  rintro e w3 h3
  obtain ⟨rfl, ho, ha⟩ := h3.pre B2
  go_wp2
  exact bodyPost_end (v := .tuple #[]) (by simp [results, Tryd.results71]) rfl ⟨rfl, ho, ha⟩
set_option maxHeartbeats 8000000 in
theorem addPush0_any {w : World} {cb k : Nat} {v : Value} {C : List Cd.In} {R : Int} (h : CO w cb k v C R) (hlen : C.length ≤ 800000) (op kk vv n r tn : Int) (g1 : (op == 1) = false) (g2 : (op == 2) = false) (g3 : (op == 3) = false) (g4 : (op == 4) = false) (g5 : (op == 5) = false) (g6 : (op == 6) = false) (g7 : (op == 7) = false) (g8 : (op == 8) = false) : Calls Tryd.prog 71 #[.pointer (some ⟨cb, 0, none⟩), .agg #[.int .i64 op, .int .i64 kk, .int .i64 vv, .int .i64 n], .int .i64 r, .int .i64 tn] w (CP w cb k C R) := by
  have b1 : Below w.heap.size w (w.alloc (.cells #[.int .i64 op, .int .i64 kk, .int .i64 vv, .int .i64 n] 59 (0, 0))) := (Below.refl _ _).alloc (Nat.le_refl _) _
  have kP := heap_new w (.cells #[.int .i64 op, .int .i64 kk, .int .i64 vv, .int .i64 n] 59 (0, 0))
  go_enter Tryd.func71, Tryd.ntmps71
  go_upto_region 1 with fail
  generalize w.alloc (.cells #[.int .i64 op, .int .i64 kk, .int .i64 vv, .int .i64 n] 59 (0, 0)) = w1 at b1 kP ⊢
  have p0 := cell_of kP 0
  have p1 := cell_of kP 1
  have p2 := cell_of kP 2
  have p3 := cell_of kP 3
  simp at p0 p1 p2 p3
  have HH := hide h
  clear kP h
  go_wp2
  exact bodyPost_end (v := .tuple #[]) (by simp [results, Tryd.results71]) rfl (CP.none HH.out b1)
/-- the code of a step of a tree -/
theorem addPush71_any {w : World} {cb k : Nat} {v : Value} {C : List Cd.In} {R : Int} (h : CO w cb k v C R) (hlen : C.length ≤ 800000) (p : Pu) (r fr tn : Int) (he : fr = r + Lo.tk p.op) (hr : 0 ≤ r ∧ r ≤ 900) (ht : 0 ≤ tn) : Calls Tryd.prog 71 #[.pointer (some ⟨cb, 0, none⟩), .agg #[.int .i64 p.op, .int .i64 p.k, .int .i64 p.v, .int .i64 p.n], .int .i64 r, .int .i64 tn] w (CP w cb k (C ++ Em.ep p fr tn) (Em.rg R (Em.ep p fr tn))) := by
  obtain ⟨op, kk, vv, n⟩ := p
  dsimp only at he ⊢
  by_cases o1 : op = 1
  · subst o1
    have e : Em.ep ⟨1, kk, vv, n⟩ fr tn = [⟨1, 0, r, 0, 0, n⟩] := by simp [Lo.tk] at he; simp [Em.ep, he]
    rw [e]
    exact addPush1_any h hlen kk vv n r tn hr
  by_cases o2 : op = 2
  · subst o2
    have e : Em.ep ⟨2, kk, vv, n⟩ fr tn = [⟨2, 0, r, 0, 0, vv⟩] := by simp [Lo.tk] at he; simp [Em.ep, he]
    rw [e]
    exact addPush2_any h hlen kk vv n r tn hr
  by_cases o3 : op = 3
  · subst o3
    obtain ⟨z, hz⟩ : ∃ z : Int, z = if tn = 0 then 2 else 3 := ⟨_, rfl⟩
    have e : Em.ep ⟨3, kk, vv, n⟩ fr tn = [⟨z, 0, r, 0, tn, vv⟩] := by
      rw [hz]
      simp [Lo.tk] at he
      by_cases h0 : tn = 0
      · simp [Em.ep, he, h0]
      · simp [Em.ep, he, h0]
    rw [e]
    exact addPush3_any h hlen kk vv n r tn hr z hz
  by_cases o4 : op = 4
  · subst o4
    by_cases h0 : tn = 0
    · have e : Em.ep ⟨4, kk, vv, n⟩ fr tn = [⟨1, 0, r, 0, 0, n⟩] := by simp [Lo.tk] at he; simp [Em.ep, he, h0]
      rw [e]
      exact addPush4a_any h hlen kk vv n r tn hr h0
    · have e : Em.ep ⟨4, kk, vv, n⟩ fr tn = [⟨1, 0, r, 0, 0, n⟩, ⟨7, 1, r, r, 0, 0⟩] := by
        have : 0 < tn := by omega
        simp [Lo.tk] at he
        simp [Em.ep, he, this]
      rw [e]
      exact addPush4b_any h hlen kk vv n r tn hr h0
  by_cases o5 : op = 5
  · subst o5
    have e : Em.ep ⟨5, kk, vv, n⟩ fr tn = [⟨6, kk, r, r, 0, 0⟩] := by
      simp [Lo.tk] at he
      have : fr - 1 = r := by omega
      simp [Em.ep, this]
    rw [e]
    exact addPush5_any h hlen kk vv n r tn hr
  by_cases o6 : op = 6
  · subst o6
    have e : Em.ep ⟨6, kk, vv, n⟩ fr tn = [⟨7, kk, r, r, r + 1, 0⟩] := by
      simp [Lo.tk] at he
      have h1 : fr - 2 = r := by omega
      have h2 : fr - 1 = r + 1 := by omega
      simp [Em.ep, h1, h2]
    rw [e]
    exact addPush6_any h hlen kk vv n r tn hr
  by_cases o7 : op = 7
  · subst o7
    have e : Em.ep ⟨7, kk, vv, n⟩ fr tn = [⟨8, 0, r, r + 1, r + 2, 0⟩] := by
      simp [Lo.tk] at he
      have h1 : fr - 3 = r := by omega
      have h2 : fr - 2 = r + 1 := by omega
      have h3 : fr - 1 = r + 2 := by omega
      simp [Em.ep, h1, h2, h3]
    rw [e]
    exact addPush7_any h hlen kk vv n r tn hr
  by_cases o8 : op = 8
  · subst o8
    have e : Em.ep ⟨8, kk, vv, n⟩ fr tn = atI (r + 2) n vv := by
      simp [Lo.tk] at he
      subst he
      simp [Em.ep, atI]
    rw [e]
    exact addPush8_any h hlen kk vv n r tn hr
  have e : Em.ep ⟨op, kk, vv, n⟩ fr tn = [] := by simp [Em.ep, o1, o2, o3, o4, o5, o6, o7, o8]
  rw [e, List.append_nil]
  exact addPush0_any h hlen op kk vv n r tn (by simpa using o1) (by simpa using o2) (by simpa using o3) (by simpa using o4) (by simpa using o5) (by simpa using o6) (by simpa using o7) (by simpa using o8)
end Go.Proofs.YtbiomnnlpafciaaDoor
