import Derived.Test.YtbiomnnlpafciaaDoorS18
import Derived.Test.YtbiomnnlpafciaaDoorS16
import Derived.WalkKit
import Derived.WalkSpells
import Derived.IntWalk
import Derived.Deep.Cut
import Derived.Deep.LoopGhost
import Derived.Laws.Cover1
import Derived.Lib.Hide
set_option linter.unusedVariables false
set_option linter.unusedSimpArgs false
set_option maxHeartbeats 64000000
set_option maxRecDepth 100000
namespace Go.Proofs.YtbiomnnlpafciaaDoor
open Go.RowKit Go.IntWalk
set_option linter.unusedVariables false
set_option linter.unusedSimpArgs false
theorem one_row {ok : Nat → Prop} {w : World} {b : Nat} {i : Cd.In} (k : w.heap[b]? = some (.cells #[.int .i64 i.op, .int .i64 i.k, .int .i64 i.r, .int .i64 i.a, .int .i64 i.b, .int .i64 i.n] 72 (0, 0))) (hob : ok b) : HIns ok w (.slice (some ⟨b, 0, none⟩) 1 1) [i] :=
  blk_row kIn (l := [i]) k (fun _ => i.cs) (fun j hj => ⟨rfl, fun q hq => by
    have h1 : j = 0 := by simpa using hj
    subst h1
    rcases lt6 (show q < 6 from hq) with rfl | rfl | rfl | rfl | rfl | rfl <;> rfl⟩) (fun j hj => by
    have h1 : j = 0 := by simpa using hj
    subst h1
    rfl) hob (show 1 ≤ maxLen by decide)
end Go.Proofs.YtbiomnnlpafciaaDoor
namespace Go.Proofs.YtbiomnnlpafciaaDoor
open Go.RowKit Go.IntWalk
set_option linter.unusedVariables false
set_option linter.unusedSimpArgs false
/-- code of the call's own: it lies in block k (and not in block cb) -/
def OwnC (cb k : Nat) (w : World) (v : Value) (C : List Cd.In) : Prop := OwnX kIn (fun i => i = k ∧ i ≠ cb) w v C
/-- a coder in memory: block cb; its code lies in block k -/
structure CO (w : World) (cb k : Nat) (v : Value) (C : List Cd.In) (R : Int) : Prop where
  m : w.heap[cb]? = some (.cells #[v, .int .i64 R] 64 (0, 0))
  own : OwnC cb k w v C
  lt : k < w.heap.size
theorem CO.past {w w' : World} {cb k : Nat} {v : Value} {C : List Cd.In} {R : Int} (h : CO w cb k v C R) {S : List Nat} (a : Aside S w.heap.size w w') (h1 : cb ∉ S) (h2 : k ∉ S) : CO w' cb k v C R :=
  ⟨(a.block _ (lt_of h.m) h1).trans h.m, h.own.keep a.size (fun i hi hl => a.block i hl (by rw [hi.1]; exact h2)), Nat.lt_of_lt_of_le h.lt a.size⟩
theorem CO.under {w w' : World} {cb k : Nat} {v : Value} {C : List Cd.In} {R : Int} (h : CO w cb k v C R) (b : Below w.heap.size w w') : CO w' cb k v C R := h.past (aside (S := []) b) (by simp) (by simp)
/-- so many instructions more, and nothing else but its own memory -/
structure CP (w : World) (cb k : Nat) (C : List Cd.In) (R : Int) (e : Ending) (w' : World) : Prop where
  e : e = .returned (.tuple #[])
  o : ∃ k' v', CO w' cb k' v' C R ∧ (k' = k ∨ w.heap.size ≤ k')
  a : Aside [cb, k] w.heap.size w w'
/-- from one call to the next -/
theorem aside_next {cb k k' : Nat} {w w1 w2 : World} (a : Aside [cb, k] w.heap.size w w1) (hk : k' = k ∨ w.heap.size ≤ k') (b : Aside [cb, k'] w1.heap.size w1 w2) : Aside [cb, k] w.heap.size w w2 :=
  ⟨b.os.trans a.os, b.tape.trans a.tape, b.output.trans a.output, Nat.le_trans a.size b.size, fun i hi hs => (b.block i (Nat.lt_of_lt_of_le hi a.size) (by
    simp only [List.mem_cons, List.not_mem_nil, or_false] at hs ⊢
    rcases hk with rfl | hk
    · exact hs
    · omega)).trans (a.block i hi hs)⟩
theorem next_own {N n k k' k2 : Nat} (hk : k' = k ∨ N ≤ k') (h2 : k2 = k' ∨ n ≤ k2) (hN : N ≤ n) : k2 = k ∨ N ≤ k2 := by omega
theorem toCell44_any (r : Int) (op k n t : Int) {aF aE : Option Addr} {nF cF nE cE : Nat} (w : World) : Calls Tryd.prog 44 #[.int .i64 r, .agg #[.int .i64 op, .int .i64 k, .int .i64 n, .int .i64 t, .slice aF nF cF, .slice aE nE cE]] w fun e w' => e = .returned (.agg #[.int .i64 4, .int .i64 0, .int .i64 r, .int .i64 0, .int .i64 0, .int .i64 t]) ∧ Below w.heap.size w w' := by
  go_enter Tryd.func44, Tryd.ntmps44
  go_wp2
  exact bodyPost_ret (v := .agg #[.int .i64 4, .int .i64 0, .int .i64 r, .int .i64 0, .int .i64 0, .int .i64 t]) (by simp [results, Tryd.results44, go_sem]) rfl ⟨rfl, ((Below.refl _ _).alloc (Nat.le_refl _) _).alloc (by simp) _⟩
theorem toTurn46_any (r : Int) (op k n t : Int) {aF aE : Option Addr} {nF cF nE cE : Nat} (w : World) : Calls Tryd.prog 46 #[.int .i64 r, .agg #[.int .i64 op, .int .i64 k, .int .i64 n, .int .i64 t, .slice aF nF cF, .slice aE nE cE]] w fun e w' => e = .returned (.agg #[.int .i64 5, .int .i64 0, .int .i64 r, .int .i64 0, .int .i64 n, .int .i64 t]) ∧ Below w.heap.size w w' := by
  go_enter Tryd.func46, Tryd.ntmps46
  go_wp2
  exact bodyPost_ret (v := .agg #[.int .i64 5, .int .i64 0, .int .i64 r, .int .i64 0, .int .i64 n, .int .i64 t]) (by simp [results, Tryd.results46, go_sem]) rfl ⟨rfl, ((Below.refl _ _).alloc (Nat.le_refl _) _).alloc (by simp) _⟩
theorem join48_any (k : Int) (w : World) : Calls Tryd.prog 48 #[.int .i64 k] w fun e w' => e = .returned (.agg #[.int .i64 7, .int .i64 k, .int .i64 1, .int .i64 1, .int .i64 2, .int .i64 0]) ∧ Below w.heap.size w w' := by
  go_enter Tryd.func48, Tryd.ntmps48
  go_wp2
  exact bodyPost_ret (v := .agg #[.int .i64 7, .int .i64 k, .int .i64 1, .int .i64 1, .int .i64 2, .int .i64 0]) (by simp [results, Tryd.results48, go_sem]) rfl ⟨rfl, (Below.refl _ _).alloc (Nat.le_refl _) _⟩
theorem taken70_any (op k v n : Int) (w : World) : Calls Tryd.prog 70 #[.agg #[.int .i64 op, .int .i64 k, .int .i64 v, .int .i64 n]] w fun e w' => e = .returned (.int .i64 (Lo.tk op)) ∧ Below w.heap.size w w' := by
  have b1 : Below w.heap.size w (w.alloc (.cells #[.int .i64 op, .int .i64 k, .int .i64 v, .int .i64 n] 59 (0, 0))) := (Below.refl _ _).alloc (Nat.le_refl _) _
  unfold Lo.tk
  by_cases h5 : op = 5
  · subst h5
    go_enter Tryd.func70, Tryd.ntmps70
    go_wp2
    go_ret
    exact ⟨rfl, b1⟩
  rw [if_neg h5]
  have g5 : (op == 5) = false := by simpa using h5
  by_cases h6 : op = 6
  · subst h6
    go_enter Tryd.func70, Tryd.ntmps70
    go_wp2
    go_ret
    exact ⟨rfl, b1⟩
  have g6 : (op == 6) = false := by simpa using h6
  by_cases h8 : op = 8
  · subst h8
    go_enter Tryd.func70, Tryd.ntmps70
    go_wp2
    go_ret
    exact ⟨rfl, b1⟩
  have g8 : (op == 8) = false := by simpa using h8
  rw [if_neg (by omega)]
  by_cases h7 : op = 7
  · subst h7
    go_enter Tryd.func70, Tryd.ntmps70
    go_wp2
    go_ret
    exact ⟨rfl, b1⟩
  have g7 : (op == 7) = false := by simpa using h7
  rw [if_neg h7]
  clear h5 h6 h7 h8
  go_enter Tryd.func70, Tryd.ntmps70
  go_wp2
  go_ret
  exact ⟨rfl, b1⟩
set_option maxHeartbeats 4000000 in
theorem cellOfTurn83_any (op k v n r tn : Int) (w : World) : Calls Tryd.prog 83 #[.agg #[.int .i64 op, .int .i64 k, .int .i64 v, .int .i64 n], .int .i64 r, .int .i64 tn] w fun e w' => e = .returned (.agg #[.int .i64 (if tn = 0 then 2 else 3), .int .i64 0, .int .i64 r, .int .i64 0, .int .i64 tn, .int .i64 v]) ∧ Below w.heap.size w w' := by
  by_cases h : tn = 0
  · subst h
    rw [if_pos rfl]
    go_enter Tryd.func83, Tryd.ntmps83
    go_wp2
    exact bodyPost_ret (v := .agg #[.int .i64 2, .int .i64 0, .int .i64 r, .int .i64 0, .int .i64 0, .int .i64 v]) (by simp [results, Tryd.results83, go_sem]) rfl ⟨rfl, ((Below.refl _ _).alloc (Nat.le_refl _) _).alloc (by simp) _⟩
  · rw [if_neg h]
    have g : (tn == 0) = false := by simpa using h
    go_enter Tryd.func83, Tryd.ntmps83
    go_wp2
    exact bodyPost_ret (v := .agg #[.int .i64 3, .int .i64 0, .int .i64 r, .int .i64 0, .int .i64 tn, .int .i64 v]) (by simp [results, Tryd.results83, go_sem]) rfl ⟨rfl, ((Below.refl _ _).alloc (Nat.le_refl _) _).alloc (by simp) _⟩
end Go.Proofs.YtbiomnnlpafciaaDoor
