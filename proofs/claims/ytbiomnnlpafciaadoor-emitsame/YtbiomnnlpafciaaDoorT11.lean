import Derived.Test.YtbiomnnlpafciaaDoorT06
import Derived.Deep.Cut
import Derived.Deep.LoopGhost
import Derived.IntWalk
import Derived.Laws.Cover1
import Derived.Lib.Hide
import Derived.Lib.MakeNoZero
import Derived.WalkKit
import Derived.WalkSpells
import Derived.Ground.NamesProg
import Derived.Laws.EntriesVeiled
import Derived.Laws.Externs
import Derived.Shelf.Lay
set_option linter.unusedVariables false
set_option linter.unusedSimpArgs false
set_option maxHeartbeats 64000000
set_option maxRecDepth 100000
namespace Go.Proofs.YtbiomnnlpafciaaDoor
open Go.RowKit Go.IntWalk
set_option linter.unusedVariables false
set_option linter.unusedSimpArgs false
namespace Sk
def idxI (p : Int → Bool) : Nat → List Int → Int
  | _, [] => -1
  | i, x :: r => if p x = true then (i : Int) else idxI p (i + 1) r
theorem idxI_neg (p : Int → Bool) : ∀ (l : List Int) (i : Nat), (0 ≤ idxI p i l ↔ l.any p = true) ∧ (l.any p = false → idxI p i l = -1)
  | [], i => by simp [idxI]
  | x :: r, i => by
    unfold idxI
    by_cases h : p x = true
    · rw [if_pos h]
      simp [h]
    · rw [if_neg h]
      have := idxI_neg p r (i + 1)
      simp [h]
      simpa using this
end Sk
set_option maxHeartbeats 8000000 in
theorem indexFuncM_any {ok : Nat → Prop} {w : World} {v : Value} {l : List Int} {N : Nat} {a : Value} {p : Int → Bool} (eg : ∀ args w, (callFunc N args).run Tryd.prog w = .ok (.enter N args) w) (hl : HInts ok w v l) (hp : ∀ x ∈ l, ∀ W, Below w.heap.size w W → Calls Tryd.prog N #[a, .int .i64 x] W fun e W' => e = .returned (.bool (p x)) ∧ Below W.heap.size W W') :
    Calls Tryd.prog 63 #[v, .func (.func N) #[a] #[]] w fun e w' => e = .returned (.int .i64 (Sk.idxI p 0 l)) ∧ Below w.heap.size w w' := by
  obtain ⟨ao, cap, rfl, hc1, hc2, -⟩ := hl.at
  unfold maxLen at hc2
  obtain ⟨R, hR⟩ : ∃ R, R = Sk.idxI p 0 l := ⟨_, rfl⟩
  rw [← hR]
  have HR := hide (show R = Sk.idxI p 0 (l.drop 0) by rw [List.drop_zero]; exact hR)
  have HL := hide hl
  have HP := hide hp
  clear hR hl hp
  obtain ⟨n, hn⟩ : ∃ n, n = l.length := ⟨_, rfl⟩
  rw [← hn] at hc1 ⊢
  have HN := hide hn
  clear hn
  go_enter Tryd.func63, Tryd.ntmps63
  go_wp2_with fail
  go_loopg [8] n (fun k v wr => ∃ i, i ≤ n ∧ k = n - i ∧ v = .int .i64 (i : Nat) ∧ Hid (R = Sk.idxI p i (l.drop i)) ∧ Below w.heap.size w wr)
  case atStart => exact ⟨0, Nat.zero_le _, rfl, rfl, HR, Below.refl _ _⟩
  case round =>
    clear HR
    obtain ⟨i, hi, rfl, rfl, H, hbr⟩ := hrel
    by_cases hlt : i < n
    case neg =>
      have hin : i = n := by omega
      subst hin
      have e1 : l.drop i = [] := List.drop_of_length_le (by have := HN.out; omega)
      have HZ := hide (show R = -1 by rw [H.out, e1]; rfl)
      clear e1
      go_wp2
      go_ret
      exact ⟨by rw [HZ.out]; rfl, hbr⟩
    case pos =>
      have hil : i < l.length := by have := HN.out; omega
      have hdr : l.drop i = l[i] :: l.drop (i + 1) := List.drop_eq_getElem_cons hil
      have hR1 := H.out
      rw [hdr] at hR1
      obtain ⟨ao', cap', eqs, -, -, hat2⟩ := (HL.out.under hbr).at
      injection eqs with q1 q2 q3
      subst q1
      obtain ⟨bb, o, rfl, hb, e0⟩ := hat2 i hil
      obtain ⟨y, hy⟩ : ∃ y, y = l[i] := ⟨_, rfl⟩
      have hc := HP.out y (by rw [hy]; exact List.getElem_mem hil) wr hbr
      rw [← hy] at e0 hR1
      unfold Sk.idxI at hR1
      generalize p y = q at hc hR1
      have HR1 := hide hR1
      clear hat2 q2 q3 hy hdr hR1 H
      go_wp2_with fail
      refine hc.mono ?_
      rintro e w4 ⟨rfl, b4⟩
      have B4 := hbr.trans (b4.mono hbr.size)
      clear hc
      cases q
      case false =>
        have HZ : Hid (R = Sk.idxI p (i + 1) (l.drop (i + 1))) := hide (by rw [HR1.out]; simp)
        clear HR1
        go_wp2_with fail
        go_roundg (n - (i + 1))
        case measure => omega
        case rel => exact ⟨i + 1, by omega, rfl, by go_num, HZ, B4⟩
      case true =>
        have HZ : Hid (R = (i : Int)) := hide (by rw [HR1.out]; simp)
        clear HR1
        go_wp2
        go_ret
        exact ⟨by rw [HZ.out]; rfl, B4⟩
set_option maxHeartbeats 8000000 in
theorem containsFuncM_any {ok : Nat → Prop} {w : World} {v : Value} {l : List Int} {N : Nat} {a : Value} {p : Int → Bool} (eg : ∀ args w, (callFunc N args).run Tryd.prog w = .ok (.enter N args) w) (hl : HInts ok w v l) (hp : ∀ x ∈ l, ∀ W, Below w.heap.size w W → Calls Tryd.prog N #[a, .int .i64 x] W fun e W' => e = .returned (.bool (p x)) ∧ Below W.heap.size W W') :
    Calls Tryd.prog 38 #[v, .func (.func N) #[a] #[]] w fun e w' => e = .returned (.bool (l.any p)) ∧ Below w.heap.size w w' := by
  have hc := indexFuncM_any eg hl hp
  have hi := Sk.idxI_neg p l 0
  obtain ⟨ao, cap, rfl, -⟩ := hl.at
  generalize Sk.idxI p 0 l = R at hc hi
  have HI := hide hi
  clear hi hl hp eg
  generalize l.any p = q at HI ⊢
  go_enter Tryd.func38, Tryd.ntmps38
  go_wp2_with fail
  refine hc.mono ?_
  rintro e w4 ⟨rfl, b4⟩
  have hq : (decide (0 ≤ R)) = q := by
    have := HI.out.1
    cases q <;> simp at this ⊢ <;> omega
  go_wp2
  go_ret
  exact ⟨by rw [← hq]; rfl, b4⟩
end Go.Proofs.YtbiomnnlpafciaaDoor
namespace Go.Proofs.YtbiomnnlpafciaaDoor
open Go Go.RowKit Go.IntWalk
def waits (md : Region.Mode) (o : Oper) : List Nat := (o.after.toList.filter (Region.binds md)).map (·.on)
/-- one more has come up -/
def also (D : Nat → Bool) (i : Nat) : Nat → Bool := fun j => j == i || D j
section
variable {P : Program} {ops : Array Oper} {Q : Exit → Act → World → Prop} {md : Region.Mode} {S : World → Prop} {late : Nat → Bool}
/-- each of these keeps the invariant when it comes up -/
def Keeps (P : Program) (md : Region.Mode) (ops : Array Oper) (Q : Exit → Act → World → Prop) (I : (Nat → Bool) → Act → World → Prop) (rs : List Nat) : Prop :=
  ∀ i ∈ rs, ∀ o, ops[i]? = some o → ∀ D a w, I D a w → D i = false → (∀ d ∈ waits md o, D d = true) → wpOp P ops Q i (fun a' w' => I (also D i) a' w') a w
theorem Keeps.skip {I : (Nat → Bool) → Act → World → Prop} {i : Nat} {rs : List Nat} (h : ∀ D a w, I D a w → D i = true) (hs : Keeps P md ops Q I rs) : Keeps P md ops Q I (i :: rs) := fun j hj => by
  rcases List.mem_cons.1 hj with rfl | hj
  · intro o ho D a w hI hD
    rw [h D a w hI] at hD
    cases hD
  · exact hs j hj
end
/-- a block of one cell, above B, that a slot points to -/
def Blk (w : World) (B : Nat) (t : Value) (ty : TypeId) (v : Value) : Prop := ∃ b, t = .pointer (some ⟨b, 0, none⟩) ∧ B ≤ b ∧ w.heap[b]? = some (.cells #[v] ty (0, 0))
theorem Blk.off {w : World} {B : Nat} {t : Value} {ty : TypeId} {v v' z : Value} {d d' : Bool} (h : Blk w B t ty (if d = true then v else z)) (e : d = false) (e' : d' = false) : Blk w B t ty (if d' = true then v' else z) := by
  subst e e'
  simpa using h
end Go.Proofs.YtbiomnnlpafciaaDoor
namespace Go.Proofs.YtbiomnnlpafciaaDoor
open Go.RowKit Go.IntWalk
set_option linter.unusedVariables false
set_option linter.unusedSimpArgs false
open Go in
set_option maxHeartbeats 8000000 in
theorem indexFuncG_any {ok : Nat → Prop} {w : World} {v : Value} {l : List Int} {N : Nat} {bs cs : Array Value} {p : Int → Bool} (eg : ∀ args w, (callFunc N args).run Tryd.prog w = .ok (.enter N args) w) (hl : HInts ok w v l) (hp : ∀ x ∈ l, ∀ W, Below w.heap.size w W → Calls Tryd.prog N (bs ++ #[.int .i64 x] ++ cs) W fun e W' => e = .returned (.bool (p x)) ∧ Below W.heap.size W W') :
    Calls Tryd.prog 63 #[v, .func (.func N) bs cs] w fun e w' => e = .returned (.int .i64 (Sk.idxI p 0 l)) ∧ Below w.heap.size w w' := by
  obtain ⟨ao, cap, rfl, hc1, hc2, -⟩ := hl.at
  unfold maxLen at hc2
  obtain ⟨R, hR⟩ : ∃ R, R = Sk.idxI p 0 l := ⟨_, rfl⟩
  rw [← hR]
  have HR := hide (show R = Sk.idxI p 0 (l.drop 0) by rw [List.drop_zero]; exact hR)
  have HL := hide hl
  have HP := hide hp
  clear hR hl hp
  obtain ⟨n, hn⟩ : ∃ n, n = l.length := ⟨_, rfl⟩
  rw [← hn] at hc1 ⊢
  have HN := hide hn
  clear hn
  go_enter Tryd.func63, Tryd.ntmps63
  go_wp2_with fail
  go_loopg [8] n (fun k v wr => ∃ i, i ≤ n ∧ k = n - i ∧ v = .int .i64 (i : Nat) ∧ Hid (R = Sk.idxI p i (l.drop i)) ∧ Below w.heap.size w wr)
  case atStart => exact ⟨0, Nat.zero_le _, rfl, rfl, HR, Below.refl _ _⟩
  case round =>
    clear HR
    obtain ⟨i, hi, rfl, rfl, H, hbr⟩ := hrel
    by_cases hlt : i < n
    case neg =>
      have hin : i = n := by omega
      subst hin
      have e1 : l.drop i = [] := List.drop_of_length_le (by have := HN.out; omega)
      have HZ := hide (show R = -1 by rw [H.out, e1]; rfl)
      clear e1
      go_wp2
      go_ret
      exact ⟨by rw [HZ.out]; rfl, hbr⟩
    case pos =>
      have hil : i < l.length := by have := HN.out; omega
      have hdr : l.drop i = l[i] :: l.drop (i + 1) := List.drop_eq_getElem_cons hil
      have hR1 := H.out
      rw [hdr] at hR1
      obtain ⟨ao', cap', eqs, -, -, hat2⟩ := (HL.out.under hbr).at
      injection eqs with q1 q2 q3
      subst q1
      obtain ⟨bb, o, rfl, hb, e0⟩ := hat2 i hil
      obtain ⟨y, hy⟩ : ∃ y, y = l[i] := ⟨_, rfl⟩
      have hc := HP.out y (by rw [hy]; exact List.getElem_mem hil) wr hbr
      rw [← hy] at e0 hR1
      unfold Sk.idxI at hR1
      generalize p y = q at hc hR1
      have HR1 := hide hR1
      clear hat2 q2 q3 hy hdr hR1 H
      go_wp2_with fail
      refine hc.mono ?_
      rintro e w4 ⟨rfl, b4⟩
      have B4 := hbr.trans (b4.mono hbr.size)
      clear hc
      cases q
      case false =>
        have HZ : Hid (R = Sk.idxI p (i + 1) (l.drop (i + 1))) := hide (by rw [HR1.out]; simp)
        clear HR1
        go_wp2_with fail
        go_roundg (n - (i + 1))
        case measure => omega
        case rel => exact ⟨i + 1, by omega, rfl, by go_num, HZ, B4⟩
      case true =>
        have HZ : Hid (R = (i : Int)) := hide (by rw [HR1.out]; simp)
        clear HR1
        go_wp2
        go_ret
        exact ⟨by rw [HZ.out]; rfl, B4⟩
end Go.Proofs.YtbiomnnlpafciaaDoor
namespace Go.Proofs.YtbiomnnlpafciaaDoor
open Go.RowKit Go.IntWalk
set_option linter.unusedVariables false
set_option linter.unusedSimpArgs false
theorem turn30_any (n : Int) (w : World) : Calls Tryd.prog 72 #[.int .i64 n] w fun e w' => e = .returned (.bool (Cd.turn n)) ∧ w' = w := by
  unfold Cd.turn
  by_cases h1 : 1 ≤ n
  · go_enter Tryd.func72, Tryd.ntmps72
    go_wp2
    go_ret
    exact ⟨by simp [h1], rfl⟩
  · go_enter Tryd.func72, Tryd.ntmps72
    go_wp2
    go_ret
    exact ⟨by simp [h1]; omega, rfl⟩
theorem opnd29_any (k : Int) (w : World) (hG : GlobK w) : Calls Tryd.prog 78 #[.int .i64 k] w fun e w' => e = .returned (.int .i64 (Kd.opT k).2.2) ∧ Below w.heap.size w w' := by
  have hc := op_any k w hG
  generalize Kd.opT k = q at hc ⊢
  obtain ⟨q1, q2, q3⟩ := q
  go_enter Tryd.func78, Tryd.ntmps78
  go_wp2_with (go_at_call 82; refine hc.mono ?_; rintro e w' ⟨rfl, b1⟩)
  go_ret
  exact ⟨rfl, b1⟩
theorem has27_any (c R f n : Int) (w : World) (h : I64 (c - n)) : Calls Tryd.prog 76 #[.agg #[.int .i64 c, .int .i64 R], .int .i64 f, .int .i64 n] w fun e w' => e = .returned (.bool (Cd.has c f n)) ∧ Below w.heap.size w w' := by
  have b1 : Below w.heap.size w (w.alloc (.cells #[.int .i64 c, .int .i64 R] 98 (0, 0))) := (Below.refl _ _).alloc (Nat.le_refl _) _
  have hw := w64_in h
  unfold Cd.has
  by_cases h1 : 0 ≤ f
  · go_enter Tryd.func76, Tryd.ntmps76
    go_wp2
    go_ret
    exact ⟨by simp [h1], b1⟩
  · go_enter Tryd.func76, Tryd.ntmps76
    go_wp2
    go_ret
    exact ⟨by simp [show ¬ 0 ≤ f by omega], b1⟩
theorem cell26_any (b : Nat) (c R x : Int) (w : World) (h : I64 (c - 1)) (k : w.heap[b]? = some (.cells #[.int .i64 c, .int .i64 R] 98 (0, 0))) : Calls Tryd.prog 75 #[.int .i64 x, .pointer (some ⟨b, 0, none⟩)] w fun e w' => e = .returned (.bool (!Cd.has c x 1)) ∧ Below w.heap.size w w' := by
  have hc := has27_any c R x 1 w h
  generalize Cd.has c x 1 = q at hc ⊢
  have s0 := cell_of k 0
  have s1 := cell_of k 1
  simp at s0 s1
  go_enter Tryd.func75, Tryd.ntmps75
  go_wp2_with (go_at_call 76; refine hc.mono ?_; rintro e w' ⟨rfl, b1⟩)
  go_ret
  exact ⟨by simp, b1⟩
theorem reg35_any (b : Nat) (c R x : Int) (w : World) (k : w.heap[b]? = some (.cells #[.int .i64 c, .int .i64 R] 98 (0, 0))) : Calls Tryd.prog 86 #[.int .i64 x, .pointer (some ⟨b, 0, none⟩)] w fun e w' => e = .returned (.bool (Cd.lk R x)) ∧ Below w.heap.size w w' := by
  have s0 := cell_of k 0
  have s1 := cell_of k 1
  simp at s0 s1
  unfold Cd.lk
  by_cases h1 : x < 0
  · go_enter Tryd.func86, Tryd.ntmps86
    go_wp2
    go_ret
    exact ⟨by simp [h1], Below.refl _ _⟩
  · go_enter Tryd.func86, Tryd.ntmps86
    go_wp2
    go_ret
    exact ⟨by simp [h1]; omega, Below.refl _ _⟩
theorem may13_any (c R : Int) (w : World) : Calls Tryd.prog 51 #[.agg #[.int .i64 c, .int .i64 R]] w fun e w' => e = .returned (.bool (decide (1 ≤ c ∧ c ≤ 6000 ∧ 1 ≤ R ∧ R ≤ 40))) ∧ Below w.heap.size w w' := by
  have b1 : Below w.heap.size w (w.alloc (.cells #[.int .i64 c, .int .i64 R] 98 (0, 0))) := (Below.refl _ _).alloc (Nat.le_refl _) _
  by_cases h1 : 1 ≤ c
  case neg =>
    rw [decide_eq_false (by omega)]
    go_enter Tryd.func51, Tryd.ntmps51
    go_wp2
    go_ret
    exact ⟨rfl, b1⟩
  by_cases h2 : c ≤ 6000
  case neg =>
    rw [decide_eq_false (by omega)]
    go_enter Tryd.func51, Tryd.ntmps51
    go_wp2
    go_ret
    exact ⟨rfl, b1⟩
  by_cases h3 : 1 ≤ R
  case neg =>
    rw [decide_eq_false (by omega)]
    go_enter Tryd.func51, Tryd.ntmps51
    go_wp2
    go_ret
    exact ⟨rfl, b1⟩
  by_cases h4 : R ≤ 40
  case neg =>
    rw [decide_eq_false (by omega)]
    go_enter Tryd.func51, Tryd.ntmps51
    go_wp2
    go_ret
    exact ⟨rfl, b1⟩
  rw [decide_eq_true ⟨h1, h2, h3, h4⟩]
  go_enter Tryd.func51, Tryd.ntmps51
  go_wp2
  go_ret
  exact ⟨rfl, b1⟩
theorem many14_any (c R k : Int) {aP aB aG aL : Option Addr} {nP nB nG nL cP cB cG cL : Nat} (w : World) : Calls Tryd.prog 52 #[.agg #[.int .i64 c, .int .i64 R, .int .i64 k, .slice aP nP cP, .slice aB nB cB, .slice aG nG cG, .slice aL nL cL]] w fun e w' => e = .returned (.bool (decide (6000 < (nP : Int)) || decide (6000 < (nB : Int)) || decide (120000 < (nG : Int)) || decide (200000 < (nL : Int)))) ∧ Below w.heap.size w w' := by
  have b1 : Below w.heap.size w (w.alloc (.cells #[.int .i64 c, .int .i64 R, .int .i64 k, .slice aP nP cP, .slice aB nB cB, .slice aG nG cG, .slice aL nL cL] 31 (0, 0))) := (Below.refl _ _).alloc (Nat.le_refl _) _
  by_cases h0 : 6000 < (nP : Int)
  case pos =>
    go_enter Tryd.func52, Tryd.ntmps52
    go_wp2
    go_ret
    exact ⟨by simp [h0], b1⟩
  by_cases h1 : 6000 < (nB : Int)
  case pos =>
    go_enter Tryd.func52, Tryd.ntmps52
    go_wp2
    go_ret
    exact ⟨by simp [h0, h1], b1⟩
  by_cases h2 : 120000 < (nG : Int)
  case pos =>
    go_enter Tryd.func52, Tryd.ntmps52
    go_wp2
    go_ret
    exact ⟨by simp [h0, h1, h2], b1⟩
  by_cases h3 : 200000 < (nL : Int)
  case pos =>
    go_enter Tryd.func52, Tryd.ntmps52
    go_wp2
    go_ret
    exact ⟨by simp [h0, h1, h2, h3], b1⟩
  go_enter Tryd.func52, Tryd.ntmps52
  go_wp2
  go_ret
  exact ⟨by simp [h0, h1, h2, h3], b1⟩
end Go.Proofs.YtbiomnnlpafciaaDoor
