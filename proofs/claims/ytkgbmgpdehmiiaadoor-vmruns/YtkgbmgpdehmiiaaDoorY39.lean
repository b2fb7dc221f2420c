import Derived.Test.YtkgbmgpdehmiiaaDoorY29
import Derived.Lib.MakeNoZero
import Derived.Laws.Externs
import Derived.Shelf.Lay
import Derived.Ground.NamesProg
import Derived.WalkKit
import Derived.WalkSpells
import Derived.IntWalk
import Derived.Deep.Cut
import Derived.Deep.LoopGhost
import Derived.Laws.Cover1
import Derived.Lib.Hide
set_option linter.unusedVariables false
set_option linter.unusedSimpArgs false
set_option maxHeartbeats 64000000
set_option maxRecDepth 100000
namespace Go.Proofs.YtkgbmgpdehmiiaaDoor
open Go.RowKit Go.IntWalk
set_option linter.unusedVariables false
set_option linter.unusedSimpArgs false
set_option maxHeartbeats 8000000 in
theorem cloneIns0_any {ok : Nat → Prop} {w : World} {v : Value} {l : List Cd.In} (hl : HRow kIn ok w v l) (hlen : l.length ≤ 1000000) :
    Calls Tryd.prog 22 #[v] w fun e w' => ∃ v', e = .returned v' ∧ OwnL kIn w.heap.size w' v' l ∧ Below w.heap.size w w' := by
  obtain ⟨a, c, rfl, hc1, hc2⟩ := hl.form
  cases a with
  | none =>
    have h0 := row_nil hl
    subst h0
    clear hl
    have heq : ∀ W, (binOp BinOp.eql 23 (.slice none 0 c) (.slice none 0 0)).run Tryd.prog W = .ok (.bool true) W := fun W => by kernel_rfl
    go_enter Tryd.func22, Tryd.ntmps22
    go_wp2
    go_ret
    exact ⟨_, rfl, OwnL.nil, Below.refl _ _⟩
  | some ad =>
    have bA : Below w.heap.size w (w.alloc (.cells #[] 52 (0, 0))) := (Below.refl _ _).alloc (Nat.le_refl _) _
    have hl2 : HRow kIn (fun i => i < w.heap.size) (w.alloc (.cells #[] 52 (0, 0))) (.slice (some ad) l.length c) l := (hl.wide (ok' := fun i => i < w.heap.size) fun i _ h => h).keep bA.size (fun i _ h => bA.block i h)
    obtain ⟨v', w', hrun, hX, hg, hmv⟩ := run_joinO kIn 23 23 Tryd.underlying23 (OwnX.emptyRow (T := kIn) (w := w)) hl2 (fun k hk => by injection hk with hk; subst hk; exact Nat.lt_irrefl _) (by show (0 + l.length) * 48 ≤ 140737488355328; omega) (by simp; unfold maxLen; omega)
    have hB := (grown_asideO2 hg)
    have HX := hide hX
    have HMV := hide hmv
    have HG := hide hg
    have hrun2 : (Builtin.append_ #[23, 23] 23 #[.slice (some ⟨w.heap.size, 0, none⟩) 0 0, .slice (some ad) l.length c]).run Tryd.prog (w.alloc (.cells #[] 52 (0, 0))) = .ok v' w' := hrun
    clear hl hl2 hX hmv hg hrun
    have heq : ∀ W, (binOp BinOp.eql 23 (.slice (some ad) l.length c) (.slice none 0 0)).run Tryd.prog W = .ok (.bool false) W := fun W => by kernel_rfl
    go_enter Tryd.func22, Tryd.ntmps22
    go_wp2_with (at_builtin; refine wpList_joinO rfl _ _ 23 rfl _ _ _ (by rfl) (by rfl) hrun2 ?_)
    go_ret
    refine ⟨v', rfl, ownL_plain HX.out (fun k hk => ?_) (fun _ _ _ _ _ h => h), ?_⟩
    · rcases HMV.out with h | ⟨q, hq, hq2⟩
      · rw [h] at hk
        injection hk with hk
        have hk2 : w.heap.size = k := hk
        omega
      · rw [hq] at hk
        injection hk with hk
        subst hk
        have : (w.alloc (.cells #[] 52 (0, 0))).heap.size = w.heap.size + 1 := by simp
        have h3 : (w.alloc (.cells #[] 52 (0, 0))).heap.size ≤ q := hq2
        omega
    · exact hB
set_option maxHeartbeats 8000000 in
theorem cloneLong0_any {ok : Nat → Prop} {w : World} {v : Value} {l : List Int} (hl : HRow kLong ok w v l) (hlen : l.length ≤ 1000000) :
    Calls Tryd.prog 27 #[v] w fun e w' => ∃ v', e = .returned v' ∧ OwnL kLong w.heap.size w' v' l ∧ Below w.heap.size w w' := by
  obtain ⟨a, c, rfl, hc1, hc2⟩ := hl.form
  cases a with
  | none =>
    have h0 := row_nil hl
    subst h0
    clear hl
    have heq : ∀ W, (binOp BinOp.eql 40 (.slice none 0 c) (.slice none 0 0)).run Tryd.prog W = .ok (.bool true) W := fun W => by kernel_rfl
    go_enter Tryd.func27, Tryd.ntmps27
    go_wp2
    go_ret
    exact ⟨_, rfl, OwnL.nil, Below.refl _ _⟩
  | some ad =>
    have bA : Below w.heap.size w (w.alloc (.cells #[] 2 (0, 0))) := (Below.refl _ _).alloc (Nat.le_refl _) _
    have hl2 : HRow kLong (fun i => i < w.heap.size) (w.alloc (.cells #[] 2 (0, 0))) (.slice (some ad) l.length c) l := (hl.wide (ok' := fun i => i < w.heap.size) fun i _ h => h).keep bA.size (fun i _ h => bA.block i h)
    obtain ⟨v', w', hrun, hX, hg, hmv⟩ := run_joinO kLong 40 40 Tryd.underlying40 (OwnX.emptyRow (T := kLong) (w := w)) hl2 (fun k hk => by injection hk with hk; subst hk; exact Nat.lt_irrefl _) (by show (0 + l.length) * 8 ≤ 140737488355328; omega) (by simp; unfold maxLen; omega)
    have hB := (grown_asideO2 hg)
    have HX := hide hX
    have HMV := hide hmv
    have HG := hide hg
    have hrun2 : (Builtin.append_ #[40, 40] 40 #[.slice (some ⟨w.heap.size, 0, none⟩) 0 0, .slice (some ad) l.length c]).run Tryd.prog (w.alloc (.cells #[] 2 (0, 0))) = .ok v' w' := hrun
    clear hl hl2 hX hmv hg hrun
    have heq : ∀ W, (binOp BinOp.eql 40 (.slice (some ad) l.length c) (.slice none 0 0)).run Tryd.prog W = .ok (.bool false) W := fun W => by kernel_rfl
    go_enter Tryd.func27, Tryd.ntmps27
    go_wp2_with (at_builtin; refine wpList_joinO rfl _ _ 40 rfl _ _ _ (by rfl) (by rfl) hrun2 ?_)
    go_ret
    refine ⟨v', rfl, ownL_plain HX.out (fun k hk => ?_) (fun _ _ _ _ _ h => h), ?_⟩
    · rcases HMV.out with h | ⟨q, hq, hq2⟩
      · rw [h] at hk
        injection hk with hk
        have hk2 : w.heap.size = k := hk
        omega
      · rw [hq] at hk
        injection hk with hk
        subst hk
        have : (w.alloc (.cells #[] 2 (0, 0))).heap.size = w.heap.size + 1 := by simp
        have h3 : (w.alloc (.cells #[] 2 (0, 0))).heap.size ≤ q := hq2
        omega
    · exact hB
theorem cloneIns_any {ok : Nat → Prop} {w : World} {v : Value} {l : List Cd.In} (hl : HIns ok w v l) (hlen : l.length ≤ 1000000) : Calls Tryd.prog 22 #[v] w fun e w' => ∃ a c, e = .returned (.slice a l.length c) ∧ HIns (fun i => w.heap.size ≤ i) w' (.slice a l.length c) l ∧ Below w.heap.size w w' := by
  refine (cloneIns0_any (ok := ok) hl hlen).mono ?_
  rintro e w' ⟨v', rfl, o, b⟩
  obtain ⟨a, c, rfl, -, -⟩ := o.form
  exact ⟨a, c, rfl, HRow.wide o.row (fun i h _ => h), b⟩
theorem LX.ints {w : World} {g cc : Nat} {l : List Int} (h : LX w g l) (h1 : l.length ≤ cc) (hl : cc ≤ maxLen) {ok : Nat → Prop} (hg : ok g) : HInts ok w (.slice (some ⟨g, 0, none⟩) l.length cc) l := by
  refine ⟨fun i => [.int .i64 (l.getD i 0)], ⟨some ⟨g, 0, none⟩, cc, rfl, h1, hl, fun _ => ⟨g, 0, rfl, hg, h.lt, fun i hi => ⟨rfl, fun j hj => ?_⟩⟩⟩, fun i hi => by simp [hi]⟩
  have e : j = 0 := by omega
  subst e
  rw [Nat.zero_add, Nat.mul_one, Nat.add_zero, h.at hi]
  simp [hi]
theorem LX.of_own {B : Nat} {w : World} {v : Value} {l : List Int} (h : OwnL kLong B w v l) (hl : l ≠ []) : ∃ g c, v = .slice (some ⟨g, 0, none⟩) l.length c ∧ B ≤ g ∧ l.length ≤ c ∧ c ≤ maxLen ∧ LX w g l := by
  obtain ⟨D, ⟨h1, h2⟩, h3⟩ := h
  rcases h2 with ⟨-, h⟩ | ⟨g, cap, cur, e1, e2, e3, e4, e5, e6, e7⟩
  · exact absurd (List.length_eq_zero_iff.1 h) hl
  · refine ⟨g, cap, e1, e2, e4, e5, cur.toList.drop (l.length * 1), ?_⟩
    have hf : flat D l.length = l.map (Value.int .i64) := by
      have := ics_flat h3 l.length (Nat.le_refl _)
      rw [List.take_length] at this
      exact this
    have e7' : cur.toList.take (l.length * 1) = flat D l.length := e7
    rw [← hf, ← e7', List.take_append_drop]
    exact e3
theorem cloneLong_any {w : World} {g cc : Nat} {l : List Int} (hm : LX w g l) (h1 : l.length ≤ cc) (hcc : cc ≤ maxLen) (hne : l ≠ []) (hlen : l.length ≤ 1000000) : Calls Tryd.prog 27 #[.slice (some ⟨g, 0, none⟩) l.length cc] w fun e w' => ∃ g' c', e = .returned (.slice (some ⟨g', 0, none⟩) l.length c') ∧ w.heap.size ≤ g' ∧ l.length ≤ c' ∧ c' ≤ maxLen ∧ LX w' g' l ∧ Below w.heap.size w w' := by
  refine (cloneLong0_any (ok := fun _ => True) (hm.ints h1 hcc trivial) hlen).mono ?_
  rintro e w' ⟨v', rfl, o, b⟩
  obtain ⟨g', c', rfl, q1, q2, q3, q4⟩ := LX.of_own o hne
  exact ⟨g', c', rfl, q1, q2, q3, q4, b⟩
end Go.Proofs.YtkgbmgpdehmiiaaDoor
namespace Go.Proofs.YtkgbmgpdehmiiaaDoor
open Go.RowKit Go.IntWalk
set_option linter.unusedVariables false
set_option linter.unusedSimpArgs false
/-- a VM in block vb -/
def VB (w : World) (vb : Nat) (v0 v1 v2 v3 : Value) (cb nc cc : Nat) (st : Int) : Prop := w.heap[vb]? = some (.cells #[v0, v1, v2, v3, .slice (some ⟨cb, 0, none⟩) nc cc, .int .i64 st] 57 (0, 0))
theorem VB.lt {w : World} {vb cb nc cc : Nat} {v0 v1 v2 v3 : Value} {st : Int} (h : VB w vb v0 v1 v2 v3 cb nc cc st) : vb < w.heap.size := lt_of h
theorem VB.keep {w w' : World} {vb cb nc cc : Nat} {v0 v1 v2 v3 : Value} {st : Int} (h : VB w vb v0 v1 v2 v3 cb nc cc st) (hk : w'.heap[vb]? = w.heap[vb]?) : VB w' vb v0 v1 v2 v3 cb nc cc st := hk.trans h
/-- the truths of cells in block tb -/
def BF (w : World) (tb nc : Nat) (f : Int → Bool) : Prop := w.heap[tb]? = some (.cells ((List.range nc).map fun (i : Nat) => Value.bool (f (i : Int))).toArray 4 (0, 0))
theorem BF.lt {w : World} {tb nc : Nat} {f : Int → Bool} (h : BF w tb nc f) : tb < w.heap.size := lt_of h
theorem BF.keep {w w' : World} {tb nc : Nat} {f : Int → Bool} (h : BF w tb nc f) (hk : w'.heap[tb]? = w.heap[tb]?) : BF w' tb nc f := hk.trans h
theorem BF.at {w : World} {tb nc : Nat} {f : Int → Bool} (h : BF w tb nc f) {i : Nat} (hi : i < nc) : w.cell? ⟨tb, i, none⟩ = some (.bool (f (i : Int))) := by
  rw [cell_of h i, List.getElem?_toArray, List.getElem?_map, List.getElem?_range hi]
  rfl
theorem BF.free {w : World} {tb nc : Nat} {f : Int → Bool} (h : BF w tb nc f) (o : Nat) : w.frozen? ⟨tb, o, none⟩ = false := free_of h o
theorem BF.set {w : World} {tb nc : Nat} {f : Int → Bool} (h : BF w tb nc f) {i : Nat} (hi : i < nc) : BF (w.setCell ⟨tb, i, none⟩ (.bool true)) tb nc (fun j => f j || j == (i : Int)) := by
  unfold BF
  rw [set_in h i (.bool true), List.setIfInBounds_toArray]
  congr 3
  apply List.ext_getElem?
  intro j
  rw [List.getElem?_set]
  by_cases hj : j < nc
  · rw [List.getElem?_map, List.getElem?_map, List.getElem?_range hj]
    by_cases e : i = j
    · subst e
      simp [hi]
    · have e2 : ((j : Int) == (i : Int)) = false := by simp; omega
      simp [e, e2]
  · have h1 : i ≠ j := by omega
    have h2 : (List.range nc)[j]? = none := by simp; omega
    simp [h1, h2]
/-- what is wrong with the numbers of a row, from the i-th on -/
def vbad (f : Int → Bool) : Nat → List Int → List Int → Int × Int
  | i, p :: P, x :: X => if f p = true ∧ x ≠ 0 ∧ x ≠ 1 then (17, (i : Int)) else vbad f (i + 1) P X
  | _, _, _ => (0, 0)
/-- what is wrong with a row -/
def vfault (f : Int → Bool) (P X : List Int) : Int × Int := if X.length = P.length then vbad f 0 P X else (17, -1)
theorem vbad_drop {f : Int → Bool} {P X : List Int} {i : Nat} (h1 : i < P.length) (h2 : i < X.length) : vbad f i (P.drop i) (X.drop i) = if f P[i] = true ∧ X[i] ≠ 0 ∧ X[i] ≠ 1 then (17, (i : Int)) else vbad f (i + 1) (P.drop (i + 1)) (X.drop (i + 1)) := by
  rw [List.drop_eq_getElem_cons h1, List.drop_eq_getElem_cons h2]
  rfl
theorem vbad_end {f : Int → Bool} {P X : List Int} {i : Nat} (h1 : P.length ≤ i) : vbad f i (P.drop i) (X.drop i) = (0, 0) := by
  rw [List.drop_eq_nil_of_le h1]
  cases X.drop i <;> rfl
theorem below_two {w wr : World} (b : Below w.heap.size w wr) (u0 u1 : Value) : Below w.heap.size w ((wr.setCell ⟨w.heap.size, 0, none⟩ u0).setCell ⟨w.heap.size, 1, none⟩ u1) := (b.setCell (p := ⟨w.heap.size, 0, none⟩) (Nat.le_refl _) u0).setCell (p := ⟨w.heap.size, 1, none⟩) (Nat.le_refl _) u1
theorem steps16_any {w : World} {vb cb nc cc : Nat} {v0 v1 v2 v3 : Value} {st : Int} (hv : VB w vb v0 v1 v2 v3 cb nc cc st) : Calls Tryd.prog 16 #[.pointer (some ⟨vb, 0, none⟩)] w fun e w' => e = .returned (.int .i64 st) ∧ w' = w := by
  have g5 := cell_of hv 5
  simp at g5
  have yv := hv.lt
  go_enter Tryd.func16, Tryd.ntmps16
  go_wp2
  go_ret
  exact ⟨rfl, rfl⟩
theorem cells17_vm {w : World} {vb cb nc cc : Nat} {v0 v1 v2 v3 : Value} {st : Int} {M : List Int} (hv : VB w vb v0 v1 v2 v3 cb nc cc st) (hm : LX w cb M) (hn : nc = M.length) (h1 : nc ≤ cc) (hcc : cc ≤ maxLen) (hne : M ≠ []) (hlen : nc ≤ 1000000) : Calls Tryd.prog 17 #[.pointer (some ⟨vb, 0, none⟩)] w fun e w' => ∃ g' c', e = .returned (.slice (some ⟨g', 0, none⟩) M.length c') ∧ w.heap.size ≤ g' ∧ M.length ≤ c' ∧ c' ≤ maxLen ∧ LX w' g' M ∧ Below w.heap.size w w' := by
  subst hn
  have g4 := cell_of hv 4
  simp at g4
  have yv := hv.lt
  go_enter Tryd.func17, Tryd.ntmps17
  go_wp2_with fail
  refine (cloneLong_any hm h1 hcc hne hlen).mono ?_
  rintro e w' ⟨g', c', rfl, q1, q2, q3, q4, q5⟩
  go_wp2
  go_ret
  exact ⟨g', c', rfl, q1, q2, q3, q4, q5⟩
set_option maxHeartbeats 16000000 in
theorem faultOf26_any {w : World} {vb cb nc cc : Nat} {v0 v1 v2 v3 : Value} {st : Int} {okL : Nat → Prop} {tb tc nT : Nat} {f : Int → Bool} {aP aI : Option Addr} {cP cI : Nat} {P X : List Int} (hv : VB w vb (.slice aP P.length cP) v1 (.slice (some ⟨tb, 0, none⟩) nT tc) v3 cb nc cc st) (hT : BF w tb nT f) (hP : HInts okL w (.slice aP P.length cP) P) (hX : HInts okL w (.slice aI X.length cI) X) (hr : ∀ p ∈ P, 0 ≤ p ∧ p < (nT : Int)) (hPl : P.length ≤ 6000) :
    Calls Tryd.prog 26 #[.pointer (some ⟨vb, 0, none⟩), .slice aI X.length cI] w fun e w' => e = .returned (.agg #[.int .i64 (vfault f P X).1, .int .i64 (vfault f P X).2]) ∧ Below w.heap.size w w' := by
  have b1 : Below w.heap.size w (w.alloc (.cells #[.int .i64 0, .int .i64 0] 34 (0, 0))) := (Below.refl _ _).alloc (Nat.le_refl _) _
  have kF := heap_new w (.cells #[.int .i64 0, .int .i64 0] 34 (0, 0))
  have hv1 := hv.keep (b1.block _ hv.lt)
  have hT1 := hT.keep (b1.block _ hT.lt)
  obtain ⟨res, hres⟩ : ∃ x, x = vfault f P X := ⟨_, rfl⟩
  rw [← hres]
  have hP0 := hP.wide (ok' := fun i => i < w.heap.size) (fun i _ h => h)
  have hX0 := hX.wide (ok' := fun i => i < w.heap.size) (fun i _ h => h)
  have HP := hide (fun W (b : Below w.heap.size w W) => hP0.keep b.size (fun i hi _ => b.block i hi))
  have HX := hide (fun W (b : Below w.heap.size w W) => hX0.keep b.size (fun i hi _ => b.block i hi))
  have HR := hide hr
  have HRES := hide hres
  obtain ⟨np, hnp⟩ : ∃ x, x = P.length := ⟨_, rfl⟩
  obtain ⟨nx, hnx⟩ : ∃ x, x = X.length := ⟨_, rfl⟩
  rw [← hnp] at HP hv1 hPl
  rw [← hnx] at HX ⊢
  have HNP := hide hnp
  have HNX := hide hnx
  clear hv hT hP hX hP0 hX0 hr hres hnp hnx
  have ysz := lt_of kF
  go_enter Tryd.func26, Tryd.ntmps26
  go_upto_region 1 with fail
  generalize w.alloc (.cells #[.int .i64 0, .int .i64 0] 34 (0, 0)) = w1 at b1 kF hv1 hT1 ysz ⊢
  have g0 := cell_of hv1 0
  have g2 := cell_of hv1 2
  simp at g0 g2
  have yv := hv1.lt
  by_cases hne : nx = np
  case neg =>
    have hnb : ((nx : Int) != (np : Int)) = true := by simp; omega
    have hr2 : res = (17, -1) := by
      have h1 := HRES.out
      have h2 := HNP.out
      have h3 := HNX.out
      rw [h1]
      unfold vfault
      rw [if_neg (by omega)]
    subst hr2
    have HB2 := hide (below_two b1 (.int .i64 17) (.int .i64 (-1)))
    have KF := two_set kF (.int .i64 17) (.int .i64 (-1))
    have z0 := cell_of KF 0
    have z1 := cell_of KF 1
    have sz0 := cell_of kF 0
    have sz1 := cell_of kF 1
    have fz0 := free_of kF 0
    have fz1 := free_of kF 1
    simp at z0 z1 sz0 sz1
    clear KF
    go_wp2
    exact bodyPost_ret (v := .agg #[.int .i64 17, .int .i64 (-1)]) (by simp [results, Tryd.results26, go_sem, z0, z1]) rfl ⟨rfl, HB2.out⟩
  case pos =>
    subst hne
    have hnb : ((nx : Int) != (nx : Int)) = false := by simp
    have HL := hide (show vbad f 0 (P.drop 0) (X.drop 0) = res by
      have h1 := HRES.out
      have h2 := HNP.out
      have h3 := HNX.out
      rw [h1]
      unfold vfault
      rw [if_pos (by omega)]
      rfl)
    clear HRES
    go_wp2_with fail
    go_loopg [21] nx (fun kz v21 wr => ∃ (i : Nat), i ≤ nx ∧ kz = nx - i ∧ v21 = .int .i64 (i : Nat) ∧ wr = w1 ∧ Hid (vbad f i (P.drop i) (X.drop i) = res))
    case atStart => exact ⟨0, Nat.zero_le _, rfl, rfl, rfl, HL⟩
    case round =>
      clear HL
      obtain ⟨i, hi, rfl, rfl, rfl, HL⟩ := hrel
      by_cases hlt : i < nx
      case neg =>
        have hin : i = nx := by omega
        subst hin
        have hlt2 : ¬ (i : Int) < (i : Int) := by omega
        have hr2 : res = (0, 0) := by
          rw [← HL.out]
          exact vbad_end (by have h2 := HNP.out; omega)
        subst hr2
        have HB2 := hide (below_two b1 (.int .i64 0) (.int .i64 0))
        have KF := two_set kF (.int .i64 0) (.int .i64 0)
        have z0 := cell_of KF 0
        have z1 := cell_of KF 1
        have sz0 := cell_of kF 0
        have sz1 := cell_of kF 1
        have fz0 := free_of kF 0
        have fz1 := free_of kF 1
        simp at z0 z1 sz0 sz1
        clear KF
        go_wp2
        exact bodyPost_ret (v := .agg #[.int .i64 0, .int .i64 0]) (by simp [results, Tryd.results26, go_sem, z0, z1]) rfl ⟨rfl, HB2.out⟩
      case pos =>
        have hil : (i : Int) < (nx : Int) := by omega
        have hiX : i < X.length := by have := HNX.out; omega
        have hiP : i < P.length := by have := HNP.out; omega
        obtain ⟨aoI, cpI, eI, -, -, hatI⟩ := (HX.out wr b1).at
        injection eI with r1 r2 r3
        obtain ⟨bI, oI, eaI, yI, f0⟩ := hatI i hiX
        rw [eaI] at r1
        obtain ⟨aoP, cpP, eP, -, -, hatP⟩ := (HP.out wr b1).at
        injection eP with q1 q2 q3
        obtain ⟨bP, oP, eaP, yP, p0⟩ := hatP i hiP
        rw [eaP] at q1
        have hd := HL.out
        rw [vbad_drop hiP hiX] at hd
        have hpr := HR.out P[i] (List.getElem_mem _)
        clear HL
        generalize X[i] = x at f0 hd
        generalize P[i] = p at p0 hd hpr
        obtain ⟨p, rfl⟩ : ∃ n : Nat, p = (n : Int) := ⟨p.toNat, by omega⟩
        have hpl : p < nT := by omega
        have hpl2 : (p : Int) < (nT : Int) := hpr.2
        subst r1 q1
        have t0 := hT1.at hpl
        clear hatI hatP r2 r3 q2 q3 hiX hiP hpr
        generalize f (p : Int) = tr at t0 hd
        cases tr with
        | false =>
          rw [if_neg (fun h => absurd h.1 (by decide))] at hd
          have HL := hide hd
          clear hd
          go_wp2_with fail
          go_roundg (nx - (i + 1))
          case measure => omega
          case rel => exact ⟨i + 1, by omega, rfl, by go_num, rfl, HL⟩
        | true =>
          by_cases hx0 : x = 0
          case pos =>
            subst hx0
            have hxb : ((0 : Int) != 0) = false := rfl
            rw [if_neg (fun h => h.2.1 rfl)] at hd
            have HL := hide hd
            clear hd
            go_wp2_with fail
            go_roundg (nx - (i + 1))
            case measure => omega
            case rel => exact ⟨i + 1, by omega, rfl, by go_num, rfl, HL⟩
          case neg =>
            have hxb : (x != 0) = true := by simpa using hx0
            by_cases hx1 : x = 1
            case pos =>
              subst hx1
              have hxc : ((1 : Int) != 1) = false := rfl
              rw [if_neg (fun h => h.2.2 rfl)] at hd
              have HL := hide hd
              clear hd
              go_wp2_with fail
              go_roundg (nx - (i + 1))
              case measure => omega
              case rel => exact ⟨i + 1, by omega, rfl, by go_num, rfl, HL⟩
            case neg =>
              have hxc : (x != 1) = true := by simpa using hx1
              rw [if_pos ⟨rfl, hx0, hx1⟩] at hd
              subst hd
              have HB2 := hide (below_two b1 (.int .i64 17) (.int .i64 (i : Int)))
              have KF := two_set kF (.int .i64 17) (.int .i64 (i : Int))
              have z0 := cell_of KF 0
              have z1 := cell_of KF 1
              have sz0 := cell_of kF 0
              have sz1 := cell_of kF 1
              have fz0 := free_of kF 0
              have fz1 := free_of kF 1
              simp at z0 z1 sz0 sz1
              clear KF
              go_wp2
              exact bodyPost_ret (v := .agg #[.int .i64 17, .int .i64 (i : Int)]) (by simp [results, Tryd.results26, go_sem, z0, z1]) rfl ⟨rfl, HB2.out⟩
end Go.Proofs.YtkgbmgpdehmiiaaDoor
