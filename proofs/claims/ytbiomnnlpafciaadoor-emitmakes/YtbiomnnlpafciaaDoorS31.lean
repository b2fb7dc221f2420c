import Derived.Test.YtbiomnnlpafciaaDoorS30
import Derived.WalkKit
import Derived.WalkSpells
import Derived.IntWalk
import Derived.Deep.Cut
import Derived.Deep.LoopGhost
import Derived.Laws.Cover1
import Derived.Lib.Hide
import Derived.Ground.NamesProg
import Derived.Laws.EntriesVeiled
import Derived.Laws.Externs
import Derived.Lib.MakeNoZero
import Derived.Shelf.Lay
import Derived.Maps.OwnSet
set_option linter.unusedVariables false
set_option linter.unusedSimpArgs false
set_option maxHeartbeats 64000000
set_option maxRecDepth 100000
namespace Go.Proofs.YtbiomnnlpafciaaDoor
open Go.RowKit Go.IntWalk
set_option linter.unusedVariables false
set_option linter.unusedSimpArgs false
theorem es_len {c : Int} {s : Lo.Sp} (h : Lo.Ok c s) : (Em.es s).length ≤ 1000 := by
  have h1 := et_len h.E 0
  have h2 := et_len h.E s.n
  unfold Em.es
  by_cases o1 : s.op = 1
  · rw [if_pos o1]
    simp
    omega
  rw [if_neg o1]
  have h3 : (Em.mid s).length ≤ 2 := by
    unfold Em.mid
    repeat' split
    all_goals simp
  have h4 : (if s.op = 3 ∨ s.op = 4 then Em.et s.F 2 0 ++ [(⟨9, 0, 1, 2, 0, 0⟩ : Cd.In)] else []).length ≤ 301 := by
    split
    · rename_i hf
      have := et_len (h.F hf) 0
      simp
      omega
    · simp
  have h5 : (if s.op = 3 then [(⟨4, 0, 1, 0, 0, s.tgt⟩ : Cd.In)] else []).length ≤ 1 := by split <;> simp
  simp only [List.length_append, List.length_cons]
  omega
/-- the code of a step of loops -/
theorem addStep22_any {w : World} {cb k : Nat} {v : Value} {C : List Cd.In} {R : Int} (h : CO w cb k v C R) (hlen : C.length ≤ 400000) {okE : Nat → Prop} {aF aE : Option Addr} {cF cE : Nat} {c : Int} (s : Lo.Sp) (hs : Lo.Ok c s) (hF : HPu okE w (.slice aF s.F.length cF) s.F) (hE : HPu okE w (.slice aE s.E.length cE) s.E) (hok : ∀ i, okE i → i ≠ cb ∧ i ≠ k) :
    Calls Tryd.prog 22 #[.pointer (some ⟨cb, 0, none⟩), .agg #[.int .i64 s.op, .int .i64 s.k, .int .i64 s.n, .int .i64 s.tgt, .slice aF s.F.length cF, .slice aE s.E.length cE]] w (CP w cb k (C ++ Em.es s) (Em.rg R (Em.es s))) := by
  obtain ⟨op, kk, n, t, F, E⟩ := s
  have hop := hs.op
  have hn := hs.n
  have hfE := hs.E
  have hfF := hs.F
  dsimp only at hop hn hfE hfF hF hE ⊢
  by_cases o1 : op = 1
  · subst o1
    exact addStep1_any h hlen kk n t hF hE hok hfE
  by_cases o2 : op = 2
  · subst o2
    have e : Em.es ⟨2, kk, n, t, F, E⟩ = loopC n E [⟨5, 0, 2, 0, n, t⟩] := by simp [Em.es, Em.mid, loopC]
    rw [e]
    exact addStep2_any h hlen kk n t hF hE hok hfE (by have := hn o1; omega)
  by_cases o3 : op = 3
  · subst o3
    have e : Em.es ⟨3, kk, n, t, F, E⟩ = ((Em.et F 2 0 ++ [(⟨9, 0, 1, 2, 0, 0⟩ : Cd.In)]) ++ (loopC n E [(⟨7, kk, 1, 1, 2, 0⟩ : Cd.In)] ++ [(⟨4, 0, 1, 0, 0, t⟩ : Cd.In)])) := by simp [Em.es, Em.mid, loopC]
    rw [e]
    exact addStep3_any h hlen kk n t hF hE hok hfE (hfF (.inl rfl)) (by have := hn o1; omega)
  have o4 : op = 4 := by omega
  subst o4
  have e : Em.es ⟨4, kk, n, t, F, E⟩ = ((Em.et F 2 0 ++ [(⟨9, 0, 1, 2, 0, 0⟩ : Cd.In)]) ++ loopC n E [(⟨7, kk, 1, 1, 2, 0⟩ : Cd.In), ⟨5, 0, 1, 0, n, t⟩]) := by simp [Em.es, Em.mid, loopC]
  rw [e]
  exact addStep4_any h hlen kk n t hF hE hok hfE (hfF (.inr rfl)) (by have := hn o1; omega)
end Go.Proofs.YtbiomnnlpafciaaDoor
namespace Go.Proofs.YtbiomnnlpafciaaDoor
open Go.RowKit Go.IntWalk
set_option linter.unusedVariables false
set_option linter.unusedSimpArgs false
theorem HRow.under {α : Type} {T : Kind α} {ok : Nat → Prop} {w w' : World} {v : Value} {l : List α} (h : HRow T ok w v l) (b : Below w.heap.size w w') : HRow T ok w' v l := h.keep b.size fun i _ hl => b.block i hl
end Go.Proofs.YtbiomnnlpafciaaDoor
namespace Go.Proofs.YtbiomnnlpafciaaDoor
open Go.Shelf Go.RowKit Go.Lib Go.IntWalk
set_option linter.unusedVariables false
set_option linter.unusedSimpArgs false
set_option maxHeartbeats 4000000 in
theorem samePush_same {ok ok' : Nat → Prop} {w : World} {v u : Value} {l : List Pu} (hl : HPu ok w v l) (hr : HPu ok' w u l) :
    Calls Tryd.prog 30 #[v, u] w fun e w' => e = .returned (.bool true) ∧ ∃ m, w' = w.drewN m := by
  obtain ⟨ao, cap, rfl, hc1, hc2, hat⟩ := hl.at
  obtain ⟨ao', cap', rfl, hd1, hd2, hat'⟩ := hr.at
  unfold maxLen at hc2 hd2
  clear hl hr
  obtain ⟨n, hn⟩ : ∃ n, n = l.length := ⟨_, rfl⟩
  rw [← hn] at hc1 hd1 ⊢
  have HN := hide hn
  have hq : ((n : Int) != (n : Int)) = false := by simp
  clear hn
  go_enter Tryd.func30, Tryd.ntmps30
  go_wp2
  go_loopg [5] n (fun k v wr => ∃ i d, i ≤ n ∧ k = n - i ∧ v = .int .i64 (i : Nat) ∧ wr = w.drewN d)
  case atStart => exact ⟨0, 0, Nat.zero_le _, rfl, rfl, rfl⟩
  case round =>
    obtain ⟨i, d, hi, rfl, rfl, hW⟩ := hrel
    have HW := hide hW
    clear hW
    by_cases hlt : i < n
    · have hil : i < l.length := by have := HN.out; omega
      obtain ⟨b, o, rfl, hb, q0, q1, q2, q3⟩ := hat i hil
      obtain ⟨b', o', rfl, hb', r0, r1, r2, r3⟩ := hat' i hil
      generalize l[i] = p at q0 q1 q2 q3 r0 r1 r2 r3
      have e0 : wr.cell? ⟨b, o + i * 4, none⟩ = some (.int .i64 p.op) := by rw [HW.out]; exact q0
      have e1 : wr.cell? ⟨b, o + i * 4 + 1, none⟩ = some (.int .i64 p.k) := by rw [HW.out]; exact q1
      have e2 : wr.cell? ⟨b, o + i * 4 + 2, none⟩ = some (.int .i64 p.v) := by rw [HW.out]; exact q2
      have e3 : wr.cell? ⟨b, o + i * 4 + 3, none⟩ = some (.int .i64 p.n) := by rw [HW.out]; exact q3
      have f0 : wr.cell? ⟨b', o' + i * 4, none⟩ = some (.int .i64 p.op) := by rw [HW.out]; exact r0
      have f1 : wr.cell? ⟨b', o' + i * 4 + 1, none⟩ = some (.int .i64 p.k) := by rw [HW.out]; exact r1
      have f2 : wr.cell? ⟨b', o' + i * 4 + 2, none⟩ = some (.int .i64 p.v) := by rw [HW.out]; exact r2
      have f3 : wr.cell? ⟨b', o' + i * 4 + 3, none⟩ = some (.int .i64 p.n) := by rw [HW.out]; exact r3
      clear hat hat' q0 q1 q2 q3 r0 r1 r2 r3
      go_wp2_with fail
      go_quiet (fail)
      go_wp2
      go_roundg (n - (i + 1))
      case measure => omega
      case rel => exact ⟨i + 1, _, by omega, rfl, by go_num, by rw [HW.out, World.drewN_drewN]⟩
    · have hie : i = n := by omega
      have hge : ¬ (i : Int) < (n : Int) := by omega
      go_wp2
      go_ret
      exact ⟨rfl, d, HW.out⟩
end Go.Proofs.YtbiomnnlpafciaaDoor
