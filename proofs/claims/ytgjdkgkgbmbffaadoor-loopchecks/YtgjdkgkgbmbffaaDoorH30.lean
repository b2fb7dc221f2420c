import Derived.Test.YtgjdkgkgbmbffaaDoorH29
import Derived.WalkKit
import Derived.WalkSpells
import Derived.IntWalk
import Derived.Deep.Cut
import Derived.Deep.LoopGhost
import Derived.Laws.Cover1
import Derived.Lib.Hide
set_option linter.unusedVariables false
set_option linter.unusedSimpArgs false
set_option maxHeartbeats 64000000
set_option maxRecDepth 100000
namespace Go.Proofs.YtgjdkgkgbmbffaaDoor
open Go.RowKit Go.IntWalk
set_option linter.unusedVariables false
set_option linter.unusedSimpArgs false
theorem aside_cell {S : List Nat} {B : Nat} {w w' : World} (a : Aside S B w w') {p : Addr} (h : p.block < B) (hs : p.block ∉ S) : w'.cell? p = w.cell? p := World.cell?_of_block (a.block _ h hs)
/-- cells in block g -/
def LB (w : World) (g : Nat) (l : List Int) : Prop := w.heap[g]? = some (.cells (l.map (Value.int .i64)).toArray 2 (0, 0))
theorem LB.lt {w : World} {g : Nat} {l : List Int} (h : LB w g l) : g < w.heap.size := lt_of h
theorem LB.keep {w w' : World} {g : Nat} {l : List Int} (h : LB w g l) (hk : w'.heap[g]? = w.heap[g]?) : LB w' g l := hk.trans h
theorem LB.under {w w' : World} {g : Nat} {l : List Int} (h : LB w g l) (b : Below w.heap.size w w') : LB w' g l := h.keep (b.block _ h.lt)
theorem LB.at {w : World} {g : Nat} {l : List Int} (h : LB w g l) {i : Nat} (hi : i < l.length) : w.cell? ⟨g, i, none⟩ = some (.int .i64 l[i]) := by
  unfold LB at h
  rw [cell_of h i]
  simp [hi]
theorem LB.free {w : World} {g : Nat} {l : List Int} (h : LB w g l) (o : Nat) : w.frozen? ⟨g, o, none⟩ = false := free_of h o
theorem LB.set {w : World} {g : Nat} {l : List Int} (h : LB w g l) (i : Nat) (x : Int) : LB (w.setCell ⟨g, i, none⟩ (.int .i64 x)) g (l.set i x) := by
  unfold LB at h ⊢
  rw [set_in h i (.int .i64 x)]
  simp [List.map_set]
theorem LB.ints {w : World} {g : Nat} {l : List Int} (h : LB w g l) (hl : l.length ≤ maxLen) {ok : Nat → Prop} (hg : ok g) : HInts ok w (.slice (some ⟨g, 0, none⟩) l.length l.length) l := by
  refine ⟨fun i => [.int .i64 (l.getD i 0)], ⟨some ⟨g, 0, none⟩, l.length, rfl, Nat.le_refl _, hl, fun _ => ⟨g, 0, rfl, hg, h.lt, fun i hi => ⟨rfl, fun j hj => ?_⟩⟩⟩, fun i hi => by simp [hi]⟩
  have e : j = 0 := by omega
  subst e
  rw [Nat.zero_add, Nat.mul_one, Nat.add_zero, h.at hi]
  simp [hi]
/-- a machine in block mb, its cells in block cb -/
structure MaAt (w : World) (mb cb : Nat) (c : Int) (vP vG vS : Value) (nc : Nat) : Prop where
  m : w.heap[mb]? = some (.cells #[.int .i64 c, vP, vG, vS, .slice (some ⟨cb, 0, none⟩) nc nc] 64 (0, 0))
  ne : mb ≠ cb
theorem MaAt.past {w w' : World} {mb cb : Nat} {c : Int} {vP vG vS : Value} {nc : Nat} (h : MaAt w mb cb c vP vG vS nc) (a : Aside [cb] w.heap.size w w') : MaAt w' mb cb c vP vG vS nc :=
  ⟨a.keep h.m (lt_of h.m) (by simpa using h.ne), h.ne⟩
theorem tree47_ma {w : World} {mb cb : Nat} {c : Int} {vP vG vS : Value} {nc : Nat} {M : List Int} (hm : MaAt w mb cb c vP vG vS nc) (hl : LB w cb M) (hn : nc = M.length) (hc : (M.length : Int) = c) (hcM : c ≤ 6000) {okE : Nat → Prop} {u : Value} {E : List Pu} (hE : HPu okE w u E) {n0 : Int} (hf : Lo.Fit c n0 E) (hn0 : n0 ≤ 300) (kk : Nat) (hkk : (kk : Int) < n0) :
    Calls Tryd.prog 47 #[.pointer (some ⟨mb, 0, none⟩), u, .int .i64 (kk : Int)] w fun e w' => e = .returned (.int .i64 (Lo.tree M (kk : Int) E)) ∧ Below w.heap.size w w' := by
  subst hn
  exact tree47_any hm.m (hl.ints (ok := fun _ => True) (by unfold maxLen; omega) trivial) hE hf hn0 hc kk hkk
end Go.Proofs.YtgjdkgkgbmbffaaDoor
