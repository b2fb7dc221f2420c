import Derived.Test.YtgjdkgkgbmbffaaDoorJ32
import Derived.WalkKit
import Derived.WalkSpells
import Derived.IntWalk
import Derived.Deep.Cut
import Derived.Deep.LoopGhost
import Derived.Laws.Cover1
import Derived.Lib.Hide
set_option linter.unusedVariables false
set_option linter.unusedSimpArgs false
set_option maxHeartbeats 64000000
set_option maxRecDepth 100000
namespace Go.Proofs.YtgjdkgkgbmbffaaDoor
open Go.RowKit Go.IntWalk
set_option linter.unusedVariables false
set_option linter.unusedSimpArgs false
theorem grown_low {w w' : World} {v : Value} {B : Nat} (g : w.grownBy w' v.ownBlock) (hv : ∀ k, v.ownBlock = some k → B ≤ k) (hB : B ≤ w.heap.size) : Below B w w' :=
  ⟨g.os, g.tape, g.output, g.size, fun k hk => g.block k (by omega) (fun e => by have := hv k e.symm; omega)⟩
/-- a row behind no row: a new one -/
theorem nil_join {α : Type} (T : Kind α) {w : World} (t ty : TypeId) (ht : Tryd.prog.underlying t = some (.slice T.ty)) {ok : Nat → Prop} {u : Value} {r : List α} (hr : HRow T ok w u r) (hE : ∀ ok ok' w cs a, T.E ok w cs a → T.E ok' w cs a) (hM : r.length * T.bytes ≤ 140737488355328) (hm : r.length ≤ maxLen) :
    ∃ a c w', (Builtin.append_ #[t, t] ty #[.slice none 0 0, u]).run Tryd.prog w = .ok (.slice a r.length c) w' ∧ OwnL T w.heap.size w' (.slice a r.length c) r ∧ Below w.heap.size w w' := by
  obtain ⟨v', w', h1, h2, h3, h4⟩ := run_joinO T t ty ht (OwnX.nil (T := T) (ok := fun _ => False)) hr (fun k h => by cases h) (by simpa using hM) (by simpa using hm)
  rw [List.nil_append] at h2
  obtain ⟨a, c, rfl, -, -⟩ := h2.form
  refine ⟨a, c, w', h1, ownL_plain h2 (fun k hk => ?_) hE, grown_low h3 (fun k hk => by cases hk) (Nat.le_refl _)⟩
  rcases h4 with h | ⟨q, hq, hq2⟩
  · rw [h] at hk; cases hk
  · rw [hq] at hk; injection hk with hk; omega
end Go.Proofs.YtgjdkgkgbmbffaaDoor
namespace Go.Proofs.YtgjdkgkgbmbffaaDoor
open Go.RowKit Go.IntWalk
set_option linter.unusedVariables false
set_option linter.unusedSimpArgs false
set_option maxHeartbeats 16000000 in
theorem copyRows11_any {ok : Nat → Prop} {w : World} {u : Value} {L : List (List Int)} (hu : HRow kLL ok w u L) (h60 : L.length ≤ 60) (hlen : ∀ l ∈ L, l.length ≤ 1000000) :
    Calls Tryd.prog 11 #[u] w fun e w' => ∃ a c, e = .returned (.slice a L.length c) ∧ HRow kLL (fun i => w.heap.size ≤ i) w' (.slice a L.length c) L ∧ Below w.heap.size w w' := by
  obtain ⟨aU, cU, rfl, hu1, hu2, -⟩ := hu.llAt
  unfold maxLen at hu2
  have HU := hide hu
  have HLen := hide hlen
  obtain ⟨n, hn⟩ : ∃ n, n = L.length := ⟨_, rfl⟩
  rw [← hn] at hu1 h60 ⊢
  have HN := hide hn
  clear hu hn hlen
  go_enter Tryd.func11, Tryd.ntmps11
  go_wp2_with fail
  go_loopg [3, 4] n (fun k v3 v4 wr => ∃ (i : Nat) (a : Option Addr) (c : Nat), i ≤ n ∧ k = n - i ∧ v3 = .slice a i c ∧ v4 = .int .i64 (i : Nat) ∧ Hid (OwnL kLL w.heap.size wr (.slice a i c) (L.take i)) ∧ Below w.heap.size w wr)
  case atStart => exact ⟨0, none, 0, Nat.zero_le _, rfl, rfl, rfl, hide OwnL.nil, Below.refl _ _⟩
  case round =>
    obtain ⟨i, aX, cX, hi, rfl, rfl, rfl, HO, hbr⟩ := hrel
    by_cases hlt : i < n
    case neg =>
      have hin : i = n := by omega
      subst hin
      have HR := hide (show HRow kLL (fun j => w.heap.size ≤ j) wr (.slice aX i cX) L by
        have h := HO.out.row
        rw [List.take_of_length_le (by have := HN.out; omega)] at h
        exact h)
      have HB := hide hbr
      clear HO hbr
      go_wp2
      go_ret
      exact ⟨_, _, rfl, HR.out, HB.out⟩
    case pos =>
      have hil : i < L.length := by have := HN.out; omega
      obtain ⟨ao1, cp1, e1, -, -, hat1⟩ := (HU.out.under hbr).llAt
      injection e1 with q1 q2 q3
      obtain ⟨b1, o1, v1, hb1, y1, x1, hi1⟩ := hat1 i hil
      rw [hb1] at q1
      subst q1
      obtain ⟨s, hs⟩ : ∃ s, s = L[i] := ⟨_, rfl⟩
      have hsl := HLen.out s (by rw [hs]; exact List.getElem_mem hil)
      have HTN := hide (show L.take (i + 1) = L.take i ++ [s] by rw [List.take_succ_eq_append_getElem hil, hs])
      rw [← hs] at hi1
      have hlM : (L.take i).length = i := by rw [List.length_take]; omega
      have HON := hide (show ∀ k, (Value.slice aX i cX).ownBlock = some k → w.heap.size ≤ k ∧ k < wr.heap.size from HO.out.lt)
      have HLM := hide hlM
      have q5 : ((L.take i).length + 1) * 24 ≤ 140737488355328 := by rw [hlM]; omega
      have q6 : (L.take i).length + 1 ≤ maxLen := by rw [hlM]; unfold maxLen; omega
      obtain ⟨a5, c5, w5, r5, o5, b5⟩ := nil_join kLong (w := wr) 40 40 Tryd.underlying40 (show HRow kLong ok wr v1 s from hi1) (fun _ _ _ _ _ h => h) (by show s.length * 8 ≤ _; omega) (by unfold maxLen; omega)
      have HOWc := hide (HO.out.below b5)
      have HE := hide (show kLL.E (fun j => wr.heap.size ≤ j) w5 [.slice a5 s.length c5] s from ⟨_, rfl, longs_row o5.row⟩)
      have zB := hbr.size
      have zC := Nat.le_trans zB b5.size
      have B5 := hide (hbr.trans (b5.mono hbr.size))
      have HNb := hide (fun k (e : (Value.slice aX i cX).ownBlock = some k) => (HON.out k e).2)
      clear hat1 q2 q3 hb1 hs hi1 hlM HON o5 b5 hil HO
      go_wp2_with (at_builtin; first | (refine wpList_joinO rfl _ _ 40 rfl _ _ _ (by rfl) (by rfl) r5 ?_) | (refine wpList_more kLL rfl _ _ 32 40 rfl Tryd.underlying32 w.heap.size wr.heap.size _ (L.take i) (by rfl) HOWc.out [.slice a5 s.length c5] s HE.out (by rfl) HNb.out zB zC q5 q6 ?_; intro v8 w8 own8 b8 _ _; obtain ⟨a8, c8, e8, -, -⟩ := own8.form; rw [List.length_append, HLM.out, List.length_singleton] at e8; subst e8; rw [← HTN.out] at own8; have HO8 := hide own8; have HB8 := hide b8; clear own8 b8))
      have BE := B5.out.trans HB8.out
      go_roundg (n - (i + 1))
      case measure => omega
      case rel => exact ⟨i + 1, a8, c8, by omega, rfl, rfl, by go_num, HO8, BE⟩
end Go.Proofs.YtgjdkgkgbmbffaaDoor
namespace Go.Proofs.YtgjdkgkgbmbffaaDoor
open Go.Shelf Go.RowKit Go.Lib Go.IntWalk
set_option linter.unusedVariables false
set_option linter.unusedSimpArgs false
set_option maxHeartbeats 4000000 in
theorem samePush_same {ok ok' : Nat → Prop} {w : World} {v u : Value} {l : List Pu} (hl : HPu ok w v l) (hr : HPu ok' w u l) :
    Calls Tryd.prog 34 #[v, u] w fun e w' => e = .returned (.bool true) ∧ ∃ m, w' = w.drewN m := by
  obtain ⟨ao, cap, rfl, hc1, hc2, hat⟩ := hl.at
  obtain ⟨ao', cap', rfl, hd1, hd2, hat'⟩ := hr.at
  unfold maxLen at hc2 hd2
  clear hl hr
  obtain ⟨n, hn⟩ : ∃ n, n = l.length := ⟨_, rfl⟩
  rw [← hn] at hc1 hd1 ⊢
  have HN := hide hn
  have hq : ((n : Int) != (n : Int)) = false := by simp
  clear hn
  go_enter Tryd.func34, Tryd.ntmps34
  go_wp2
  go_loopg [5] n (fun k v wr => ∃ i d, i ≤ n ∧ k = n - i ∧ v = .int .i64 (i : Nat) ∧ wr = w.drewN d)
  case atStart => exact ⟨0, 0, Nat.zero_le _, rfl, rfl, rfl⟩
  case round =>
    obtain ⟨i, d, hi, rfl, rfl, hW⟩ := hrel
    have HW := hide hW
    clear hW
    by_cases hlt : i < n
    · have hil : i < l.length := by have := HN.out; omega
      obtain ⟨b, o, rfl, hb, q0, q1, q2, q3⟩ := hat i hil
      obtain ⟨b', o', rfl, hb', r0, r1, r2, r3⟩ := hat' i hil
      generalize l[i] = p at q0 q1 q2 q3 r0 r1 r2 r3
      have e0 : wr.cell? ⟨b, o + i * 4, none⟩ = some (.int .i64 p.op) := by rw [HW.out]; exact q0
      have e1 : wr.cell? ⟨b, o + i * 4 + 1, none⟩ = some (.int .i64 p.k) := by rw [HW.out]; exact q1
      have e2 : wr.cell? ⟨b, o + i * 4 + 2, none⟩ = some (.int .i64 p.v) := by rw [HW.out]; exact q2
      have e3 : wr.cell? ⟨b, o + i * 4 + 3, none⟩ = some (.int .i64 p.n) := by rw [HW.out]; exact q3
      have f0 : wr.cell? ⟨b', o' + i * 4, none⟩ = some (.int .i64 p.op) := by rw [HW.out]; exact r0
      have f1 : wr.cell? ⟨b', o' + i * 4 + 1, none⟩ = some (.int .i64 p.k) := by rw [HW.out]; exact r1
      have f2 : wr.cell? ⟨b', o' + i * 4 + 2, none⟩ = some (.int .i64 p.v) := by rw [HW.out]; exact r2
      have f3 : wr.cell? ⟨b', o' + i * 4 + 3, none⟩ = some (.int .i64 p.n) := by rw [HW.out]; exact r3
      clear hat hat' q0 q1 q2 q3 r0 r1 r2 r3
      go_wp2_with fail
      go_quiet (fail)
      go_wp2
      go_roundg (n - (i + 1))
      case measure => omega
      case rel => exact ⟨i + 1, _, by omega, rfl, by go_num, by rw [HW.out, World.drewN_drewN]⟩
    · have hie : i = n := by omega
      have hge : ¬ (i : Int) < (n : Int) := by omega
      go_wp2
      go_ret
      exact ⟨rfl, d, HW.out⟩
end Go.Proofs.YtgjdkgkgbmbffaaDoor
namespace Go.Proofs.YtgjdkgkgbmbffaaDoor
open Go.Shelf Go.RowKit Go.Lib Go.IntWalk
set_option linter.unusedVariables false
set_option linter.unusedSimpArgs false
def ieq (x y : Int) : Bool := x == y
theorem eqL_ieq : ∀ (l r : List Int), eqL ieq l r = true ↔ l = r
  | [], [] => by simp [eqL]
  | [], y :: r => by simp [eqL]
  | x :: l, [] => by simp [eqL]
  | x :: l, y :: r => by simp [eqL, ieq, eqL_ieq l r]
set_option maxHeartbeats 2000000 in
theorem sameInts_any {ok ok' : Nat → Prop} {w : World} {v u : Value} {l r : List Int} (hl : HInts ok w v l) (hr : HInts ok' w u r) :
    Calls Tryd.prog 33 #[v, u] w fun e w' => e = .returned (.bool (eqL ieq l r)) ∧ ∃ m, w' = w.drewN m := by
  obtain ⟨ao, cap, rfl, hc1, hc2, hat⟩ := hl.at
  obtain ⟨ao', cap', rfl, hd1, hd2, hat'⟩ := hr.at
  unfold maxLen at hc2 hd2
  obtain ⟨R, hR⟩ : ∃ R, R = eqL ieq l r := ⟨_, rfl⟩
  rw [← hR]
  have HR := hide hR
  clear hR hl hr
  obtain ⟨n, hn⟩ : ∃ n, n = l.length := ⟨_, rfl⟩
  obtain ⟨m, hm⟩ : ∃ m, m = r.length := ⟨_, rfl⟩
  rw [← hn] at hc1 ⊢
  rw [← hm] at hd1 ⊢
  have HN := hide hn
  have HM := hide hm
  by_cases hlen : n = m
  · subst hlen
    have hq : ((n : Int) != (n : Int)) = false := by simp
    clear hn hm
    go_enter Tryd.func33, Tryd.ntmps33
    go_wp2
    go_loopg [5] n (fun k v wr => ∃ i d, i ≤ n ∧ k = n - i ∧ v = .int .i64 (i : Nat) ∧ Hid (∀ j (h : j < l.length) (h' : j < r.length), j < i → ieq l[j] r[j] = true) ∧ wr = w.drewN d)
    case atStart => exact ⟨0, 0, Nat.zero_le _, rfl, rfl, fun j _ _ h => absurd h (Nat.not_lt_zero _), rfl⟩
    case round =>
      obtain ⟨i, d, hi, rfl, rfl, H, hW⟩ := hrel
      have HW := hide hW
      clear hW
      by_cases hlt : i < n
      · have hil : i < l.length := by have := HN.out; omega
        have hir : i < r.length := by have := HM.out; omega
        obtain ⟨b, o, rfl, hb, hc⟩ := hat i hil
        obtain ⟨b', o', rfl, hb', hc'⟩ := hat' i hir
        have e1 : wr.cell? ⟨b, o + i, none⟩ = some (.int .i64 l[i]) := by rw [HW.out]; exact hc
        have e2 : wr.cell? ⟨b', o' + i, none⟩ = some (.int .i64 r[i]) := by rw [HW.out]; exact hc'
        obtain ⟨x, hx⟩ : ∃ x, x = l[i] := ⟨_, rfl⟩
        obtain ⟨y, hy⟩ : ∃ y, y = r[i] := ⟨_, rfl⟩
        rw [← hx] at e1
        rw [← hy] at e2
        have HX := hide hx
        have HY := hide hy
        clear hc hc' hx hy
        clear hat hat'
        cases h0 : (x == y)
        · have hbad : ieq l[i] r[i] = false := by rw [← HX.out, ← HY.out]; exact h0
          have h1 : (x != y) = true := by simp [bne, h0]
          have HBAD := hide hbad
          clear hbad
          go_wp2_with fail
          go_quiet (fail)
          go_wp2
          go_ret
          exact ⟨ret_bool (by rw [HR.out, eqL_bad i hil hir HBAD.out]), _, by rw [HW.out, World.drewN_drewN]⟩
        · have hgood : ieq l[i] r[i] = true := by rw [← HX.out, ← HY.out]; exact h0
          have h1 : (x != y) = false := by simp [bne, h0]
          have HGOOD := hide hgood
          clear hgood
          go_wp2_with fail
          go_quiet (fail)
          go_wp2
          go_roundg (n - (i + 1))
          case measure => omega
          case rel => exact ⟨i + 1, _, by omega, rfl, by go_num, hide (fun j h h' hj => by
            rcases Nat.lt_or_eq_of_le (Nat.le_of_lt_succ hj) with h2 | h2
            · exact H.out j h h' h2
            · subst h2; exact HGOOD.out), by rw [HW.out, World.drewN_drewN]⟩
      · have hie : i = n := by omega
        have hge : ¬ (i : Int) < (n : Int) := by omega
        go_wp2
        go_ret
        refine ⟨ret_bool ?_, d, HW.out⟩
        rw [HR.out]
        exact (eqL_all (by rw [← HN.out, ← HM.out]) (fun j h h' => H.out j h h' (by have := HN.out; omega))).symm
  · have hq : ((n : Int) != (m : Int)) = true := by simp; omega
    clear hn hm
    go_enter Tryd.func33, Tryd.ntmps33
    go_wp2
    go_ret
    exact ⟨ret_bool (by rw [HR.out, eqL_len (by rw [← HN.out, ← HM.out]; exact hlen)]), 0, rfl⟩
end Go.Proofs.YtgjdkgkgbmbffaaDoor
