import Derived.Test.YtkgbmgpdehmiiaaDoorV31
import Derived.Test.YtkgbmgpdehmiiaaDoorV16
import Derived.Test.YtkgbmgpdehmiiaaDoorV13
import Derived.WalkKit
import Derived.WalkSpells
import Derived.IntWalk
import Derived.Deep.Cut
import Derived.Deep.LoopGhost
import Derived.Laws.Cover1
import Derived.Lib.Hide
import Derived.Lib.MakeNoZero
import Derived.Laws.Externs
import Derived.Shelf.Lay
import Derived.Ground.NamesProg
set_option linter.unusedVariables false
set_option linter.unusedSimpArgs false
set_option maxHeartbeats 64000000
set_option maxRecDepth 100000
namespace Go.Proofs.YtkgbmgpdehmiiaaDoor
open Go.RowKit Go.IntWalk
set_option linter.unusedVariables false
set_option linter.unusedSimpArgs false
set_option maxHeartbeats 8000000 in
theorem cloneIns0_any {ok : Nat → Prop} {w : World} {v : Value} {l : List Cd.In} (hl : HRow kIn ok w v l) (hlen : l.length ≤ 1000000) :
    Calls Tryd.prog 22 #[v] w fun e w' => ∃ v', e = .returned v' ∧ OwnL kIn w.heap.size w' v' l ∧ Below w.heap.size w w' := by
  obtain ⟨a, c, rfl, hc1, hc2⟩ := hl.form
  cases a with
  | none =>
    have h0 := row_nil hl
    subst h0
    clear hl
    have heq : ∀ W, (binOp BinOp.eql 23 (.slice none 0 c) (.slice none 0 0)).run Tryd.prog W = .ok (.bool true) W := fun W => by kernel_rfl
    go_enter Tryd.func22, Tryd.ntmps22
    go_wp2
    go_ret
    exact ⟨_, rfl, OwnL.nil, Below.refl _ _⟩
  | some ad =>
    have bA : Below w.heap.size w (w.alloc (.cells #[] 52 (0, 0))) := (Below.refl _ _).alloc (Nat.le_refl _) _
    have hl2 : HRow kIn (fun i => i < w.heap.size) (w.alloc (.cells #[] 52 (0, 0))) (.slice (some ad) l.length c) l := (hl.wide (ok' := fun i => i < w.heap.size) fun i _ h => h).keep bA.size (fun i _ h => bA.block i h)
    obtain ⟨v', w', hrun, hX, hg, hmv⟩ := run_joinO kIn 23 23 Tryd.underlying23 (OwnX.emptyRow (T := kIn) (w := w)) hl2 (fun k hk => by injection hk with hk; subst hk; exact Nat.lt_irrefl _) (by show (0 + l.length) * 48 ≤ 140737488355328; omega) (by simp; unfold maxLen; omega)
    have hB := (grown_asideO2 hg)
    have HX := hide hX
    have HMV := hide hmv
    have HG := hide hg
    have hrun2 : (Builtin.append_ #[23, 23] 23 #[.slice (some ⟨w.heap.size, 0, none⟩) 0 0, .slice (some ad) l.length c]).run Tryd.prog (w.alloc (.cells #[] 52 (0, 0))) = .ok v' w' := hrun
    clear hl hl2 hX hmv hg hrun
    have heq : ∀ W, (binOp BinOp.eql 23 (.slice (some ad) l.length c) (.slice none 0 0)).run Tryd.prog W = .ok (.bool false) W := fun W => by kernel_rfl
    go_enter Tryd.func22, Tryd.ntmps22
    go_wp2_with (at_builtin; refine wpList_joinO rfl _ _ 23 rfl _ _ _ (by rfl) (by rfl) hrun2 ?_)
    go_ret
    refine ⟨v', rfl, ownL_plain HX.out (fun k hk => ?_) (fun _ _ _ _ _ h => h), ?_⟩
    · rcases HMV.out with h | ⟨q, hq, hq2⟩
      · rw [h] at hk
        injection hk with hk
        have hk2 : w.heap.size = k := hk
        omega
      · rw [hq] at hk
        injection hk with hk
        subst hk
        have : (w.alloc (.cells #[] 52 (0, 0))).heap.size = w.heap.size + 1 := by simp
        have h3 : (w.alloc (.cells #[] 52 (0, 0))).heap.size ≤ q := hq2
        omega
    · exact hB
set_option maxHeartbeats 8000000 in
theorem cloneLong0_any {ok : Nat → Prop} {w : World} {v : Value} {l : List Int} (hl : HRow kLong ok w v l) (hlen : l.length ≤ 1000000) :
    Calls Tryd.prog 27 #[v] w fun e w' => ∃ v', e = .returned v' ∧ OwnL kLong w.heap.size w' v' l ∧ Below w.heap.size w w' := by
  obtain ⟨a, c, rfl, hc1, hc2⟩ := hl.form
  cases a with
  | none =>
    have h0 := row_nil hl
    subst h0
    clear hl
    have heq : ∀ W, (binOp BinOp.eql 40 (.slice none 0 c) (.slice none 0 0)).run Tryd.prog W = .ok (.bool true) W := fun W => by kernel_rfl
    go_enter Tryd.func27, Tryd.ntmps27
    go_wp2
    go_ret
    exact ⟨_, rfl, OwnL.nil, Below.refl _ _⟩
  | some ad =>
    have bA : Below w.heap.size w (w.alloc (.cells #[] 2 (0, 0))) := (Below.refl _ _).alloc (Nat.le_refl _) _
    have hl2 : HRow kLong (fun i => i < w.heap.size) (w.alloc (.cells #[] 2 (0, 0))) (.slice (some ad) l.length c) l := (hl.wide (ok' := fun i => i < w.heap.size) fun i _ h => h).keep bA.size (fun i _ h => bA.block i h)
    obtain ⟨v', w', hrun, hX, hg, hmv⟩ := run_joinO kLong 40 40 Tryd.underlying40 (OwnX.emptyRow (T := kLong) (w := w)) hl2 (fun k hk => by injection hk with hk; subst hk; exact Nat.lt_irrefl _) (by show (0 + l.length) * 8 ≤ 140737488355328; omega) (by simp; unfold maxLen; omega)
    have hB := (grown_asideO2 hg)
    have HX := hide hX
    have HMV := hide hmv
    have HG := hide hg
    have hrun2 : (Builtin.append_ #[40, 40] 40 #[.slice (some ⟨w.heap.size, 0, none⟩) 0 0, .slice (some ad) l.length c]).run Tryd.prog (w.alloc (.cells #[] 2 (0, 0))) = .ok v' w' := hrun
    clear hl hl2 hX hmv hg hrun
    have heq : ∀ W, (binOp BinOp.eql 40 (.slice (some ad) l.length c) (.slice none 0 0)).run Tryd.prog W = .ok (.bool false) W := fun W => by kernel_rfl
    go_enter Tryd.func27, Tryd.ntmps27
    go_wp2_with (at_builtin; refine wpList_joinO rfl _ _ 40 rfl _ _ _ (by rfl) (by rfl) hrun2 ?_)
    go_ret
    refine ⟨v', rfl, ownL_plain HX.out (fun k hk => ?_) (fun _ _ _ _ _ h => h), ?_⟩
    · rcases HMV.out with h | ⟨q, hq, hq2⟩
      · rw [h] at hk
        injection hk with hk
        have hk2 : w.heap.size = k := hk
        omega
      · rw [hq] at hk
        injection hk with hk
        subst hk
        have : (w.alloc (.cells #[] 2 (0, 0))).heap.size = w.heap.size + 1 := by simp
        have h3 : (w.alloc (.cells #[] 2 (0, 0))).heap.size ≤ q := hq2
        omega
    · exact hB
theorem cloneIns_any {ok : Nat → Prop} {w : World} {v : Value} {l : List Cd.In} (hl : HIns ok w v l) (hlen : l.length ≤ 1000000) : Calls Tryd.prog 22 #[v] w fun e w' => ∃ a c, e = .returned (.slice a l.length c) ∧ HIns (fun i => w.heap.size ≤ i) w' (.slice a l.length c) l ∧ Below w.heap.size w w' := by
  refine (cloneIns0_any (ok := ok) hl hlen).mono ?_
  rintro e w' ⟨v', rfl, o, b⟩
  obtain ⟨a, c, rfl, -, -⟩ := o.form
  exact ⟨a, c, rfl, HRow.wide o.row (fun i h _ => h), b⟩
theorem LX.ints {w : World} {g cc : Nat} {l : List Int} (h : LX w g l) (h1 : l.length ≤ cc) (hl : cc ≤ maxLen) {ok : Nat → Prop} (hg : ok g) : HInts ok w (.slice (some ⟨g, 0, none⟩) l.length cc) l := by
  refine ⟨fun i => [.int .i64 (l.getD i 0)], ⟨some ⟨g, 0, none⟩, cc, rfl, h1, hl, fun _ => ⟨g, 0, rfl, hg, h.lt, fun i hi => ⟨rfl, fun j hj => ?_⟩⟩⟩, fun i hi => by simp [hi]⟩
  have e : j = 0 := by omega
  subst e
  rw [Nat.zero_add, Nat.mul_one, Nat.add_zero, h.at hi]
  simp [hi]
theorem LX.of_own {B : Nat} {w : World} {v : Value} {l : List Int} (h : OwnL kLong B w v l) (hl : l ≠ []) : ∃ g c, v = .slice (some ⟨g, 0, none⟩) l.length c ∧ B ≤ g ∧ l.length ≤ c ∧ c ≤ maxLen ∧ LX w g l := by
  obtain ⟨D, ⟨h1, h2⟩, h3⟩ := h
  rcases h2 with ⟨-, h⟩ | ⟨g, cap, cur, e1, e2, e3, e4, e5, e6, e7⟩
  · exact absurd (List.length_eq_zero_iff.1 h) hl
  · refine ⟨g, cap, e1, e2, e4, e5, cur.toList.drop (l.length * 1), ?_⟩
    have hf : flat D l.length = l.map (Value.int .i64) := by
      have := ics_flat h3 l.length (Nat.le_refl _)
      rw [List.take_length] at this
      exact this
    have e7' : cur.toList.take (l.length * 1) = flat D l.length := e7
    rw [← hf, ← e7', List.take_append_drop]
    exact e3
theorem cloneLong_any {w : World} {g cc : Nat} {l : List Int} (hm : LX w g l) (h1 : l.length ≤ cc) (hcc : cc ≤ maxLen) (hne : l ≠ []) (hlen : l.length ≤ 1000000) : Calls Tryd.prog 27 #[.slice (some ⟨g, 0, none⟩) l.length cc] w fun e w' => ∃ g' c', e = .returned (.slice (some ⟨g', 0, none⟩) l.length c') ∧ w.heap.size ≤ g' ∧ l.length ≤ c' ∧ c' ≤ maxLen ∧ LX w' g' l ∧ Below w.heap.size w w' := by
  refine (cloneLong0_any (ok := fun _ => True) (hm.ints h1 hcc trivial) hlen).mono ?_
  rintro e w' ⟨v', rfl, o, b⟩
  obtain ⟨g', c', rfl, q1, q2, q3, q4⟩ := LX.of_own o hne
  exact ⟨g', c', rfl, q1, q2, q3, q4, b⟩
end Go.Proofs.YtkgbmgpdehmiiaaDoor
namespace Go.Proofs.YtkgbmgpdehmiiaaDoor
open Go.RowKit Go.IntWalk
set_option linter.unusedVariables false
set_option linter.unusedSimpArgs false
/-- what rowsGreat answers -/
structure RowsR2 (w : World) (L : List (List Int)) (e : Ending) (w' : World) : Prop where
  out : ∃ b, e = .returned (.bool b) ∧ (b = false → L.length ≤ 60 ∧ ∀ r ∈ L, r.length ≤ 10000) ∧ Below w.heap.size w w'
set_option maxHeartbeats 16000000 in
theorem rowsGreat2_any {ok : Nat → Prop} {w : World} {u : Value} {L : List (List Int)} (hu : HRow kLL ok w u L) : Calls Tryd.prog 7 #[u] w (RowsR2 w L) := by
  obtain ⟨aU, cU, rfl, hu1, hu2, -⟩ := hu.llAt
  unfold maxLen at hu2
  have HU := hide hu
  obtain ⟨n, hn⟩ : ∃ n, n = L.length := ⟨_, rfl⟩
  rw [← hn] at hu1 ⊢
  have HN := hide hn
  clear hu hn
  by_cases h60 : 60 < n
  case pos =>
    go_enter Tryd.func7, Tryd.ntmps7
    go_wp2
    go_ret
    exact ⟨⟨true, rfl, fun h => (by cases h), Below.refl _ _⟩⟩
  case neg =>
    have h61 : n ≤ 60 := by omega
    go_enter Tryd.func7, Tryd.ntmps7
    go_wp2_with fail
    go_loopg [3] n (fun k v wr => ∃ (i : Nat), i ≤ n ∧ k = n - i ∧ v = .int .i64 (i : Nat) ∧ Hid (∀ q (h : q < L.length), q < i → (L[q]).length ≤ 10000) ∧ wr = w)
    case atStart => exact ⟨0, Nat.zero_le _, rfl, rfl, hide (fun q _ h => by omega), rfl⟩
    case round =>
      obtain ⟨i, hi, rfl, rfl, HQ, rfl⟩ := hrel
      by_cases hlt : i < n
      case neg =>
        have hin : i = n := by omega
        subst hin
        go_wp2
        go_ret
        exact ⟨⟨false, rfl, fun _ => ⟨by have := HN.out; omega, fun r hr => by
          obtain ⟨q, hq, rfl⟩ := List.getElem_of_mem hr
          exact HQ.out q hq (by have := HN.out; omega)⟩, Below.refl _ _⟩⟩
      case pos =>
        have hil : i < L.length := by have := HN.out; omega
        obtain ⟨ao, cp, e1, -, -, hat⟩ := HU.out.llAt
        injection e1 with q1 q2 q3
        obtain ⟨b1, o1, v1, hb1, y1, x1, hi1⟩ := hat i hil
        rw [hb1] at q1
        subst q1
        obtain ⟨a2, c2, rfl, -, hc2, -⟩ := hi1.at
        unfold maxLen at hc2
        obtain ⟨m, hmm⟩ : ∃ m, m = (L[i]).length := ⟨_, rfl⟩
        rw [← hmm] at x1
        have HMM := hide hmm
        clear hat q2 q3 hb1 hi1 hmm
        by_cases hm : 10000 < m
        case pos =>
          go_wp2
          go_ret
          exact ⟨⟨true, rfl, fun h => (by cases h), Below.refl _ _⟩⟩
        case neg =>
          go_wp2_with fail
          go_roundg (n - (i + 1))
          case measure => omega
          case rel => exact ⟨i + 1, by omega, rfl, by go_num, hide (fun q h hq => by
            by_cases he : q = i
            · subst he
              have := HMM.out
              omega
            · exact HQ.out q h (by omega)), rfl⟩
end Go.Proofs.YtkgbmgpdehmiiaaDoor
namespace Go.Proofs.YtkgbmgpdehmiiaaDoor
open Go.RowKit Go.IntWalk
set_option linter.unusedVariables false
set_option linter.unusedSimpArgs false
theorem two_set {w : World} {b : Nat} {ty : TypeId} {v0 v1 : Value} (k : w.heap[b]? = some (.cells #[v0, v1] ty (0, 0))) (u0 u1 : Value) : ((w.setCell ⟨b, 0, none⟩ u0).setCell ⟨b, 1, none⟩ u1).heap[b]? = some (.cells #[u0, u1] ty (0, 0)) := by
  have h := set_in (set_in k 0 u0) 1 u1
  simpa using h
theorem aside_two {S : List Nat} {B : Nat} {w : World} {b : Nat} (hb : b ∈ S) (u0 u1 : Value) : Aside S B w ((w.setCell ⟨b, 0, none⟩ u0).setCell ⟨b, 1, none⟩ u1) :=
  (Aside.setCell (p := ⟨b, 0, none⟩) hb u0).trans (Aside.setCell (B := B) (p := ⟨b, 1, none⟩) hb u1) (Nat.le_refl _)
end Go.Proofs.YtkgbmgpdehmiiaaDoor
