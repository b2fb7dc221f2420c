import Derived.Test.YtbiomnnlpafciaaDoorT16
import Derived.Test.YtbiomnnlpafciaaDoorT15
import Derived.Test.YtbiomnnlpafciaaDoorT08
import Derived.WalkKit
import Derived.WalkSpells
import Derived.IntWalk
import Derived.Deep.Cut
import Derived.Deep.LoopGhost
import Derived.Laws.Cover1
import Derived.Lib.Hide
set_option linter.unusedVariables false
set_option linter.unusedSimpArgs false
set_option maxHeartbeats 64000000
set_option maxRecDepth 100000
namespace Go.Proofs.YtbiomnnlpafciaaDoor
open Go.RowKit Go.IntWalk
set_option linter.unusedVariables false
set_option linter.unusedSimpArgs false
theorem OwnL.made {w : World} {B : Nat} (hb : B ≤ w.heap.size) (cur : Array Value) (cap : Nat) (hm : cap ≤ maxLen) (hs : cur.size = cap * 1) : OwnL kLong B (w.alloc (.cells cur 2 (0, 0))) (.slice (some ⟨w.heap.size, 0, none⟩) 0 cap) [] :=
  ⟨fun _ => [], World.ownsRow_made w cur cap hb hm hs, fun j h => absurd h (Nat.not_lt_zero _)⟩
theorem make_longs (l c : Nat) (hc : l ≤ c) (hn : c ≤ 1000000) (V : World) : (Instr.makeSlice 48 (.int .i64 (l : Int)) (.int .i64 (c : Int))).run Tryd.prog V = .ok (.slice (some ⟨V.heap.size, 0, none⟩) l c) (V.alloc (.cells ((List.replicate c (0 : Int)).map (Value.int .i64)).toArray 2 (0, 0))) := by
  obtain ⟨i0, hi, hz0, hz1, hz2⟩ := info_parts Tryd.infoLg
  have h := run_make (P := Tryd.prog) V 48 2 i0 (.int .i64 0) Tryd.underlying48 hi hz0 .i64 .i64 (l : Int) (c : Int) (by omega) (by omega) (by rw [hz2]; simp; omega) (by omega)
  have e : madeCells (Value.int .i64 0).cells (((c : Int)).toNat * i0.size) = ((List.replicate c (0 : Int)).map (Value.int .i64)).toArray := by
    rw [hz1]
    apply Array.ext_getElem?
    intro j
    by_cases hj : j < c
    · simp [madeCells, Value.cells, hj, Nat.mod_one]
    · simp [madeCells, Value.cells, hj]
  rw [e] at h
  simpa using h
end Go.Proofs.YtbiomnnlpafciaaDoor
namespace Go.Proofs.YtbiomnnlpafciaaDoor
open Go.RowKit Go.IntWalk
set_option linter.unusedVariables false
set_option linter.unusedSimpArgs false
theorem aside_cell {S : List Nat} {B : Nat} {w w' : World} (a : Aside S B w w') {p : Addr} (h : p.block < B) (hs : p.block ∉ S) : w'.cell? p = w.cell? p := World.cell?_of_block (a.block _ h hs)
/-- cells in block g -/
def LB (w : World) (g : Nat) (l : List Int) : Prop := w.heap[g]? = some (.cells (l.map (Value.int .i64)).toArray 2 (0, 0))
theorem LB.lt {w : World} {g : Nat} {l : List Int} (h : LB w g l) : g < w.heap.size := lt_of h
theorem LB.keep {w w' : World} {g : Nat} {l : List Int} (h : LB w g l) (hk : w'.heap[g]? = w.heap[g]?) : LB w' g l := hk.trans h
theorem LB.under {w w' : World} {g : Nat} {l : List Int} (h : LB w g l) (b : Below w.heap.size w w') : LB w' g l := h.keep (b.block _ h.lt)
theorem LB.at {w : World} {g : Nat} {l : List Int} (h : LB w g l) {i : Nat} (hi : i < l.length) : w.cell? ⟨g, i, none⟩ = some (.int .i64 l[i]) := by
  unfold LB at h
  rw [cell_of h i]
  simp [hi]
theorem LB.free {w : World} {g : Nat} {l : List Int} (h : LB w g l) (o : Nat) : w.frozen? ⟨g, o, none⟩ = false := free_of h o
theorem LB.set {w : World} {g : Nat} {l : List Int} (h : LB w g l) (i : Nat) (x : Int) : LB (w.setCell ⟨g, i, none⟩ (.int .i64 x)) g (l.set i x) := by
  unfold LB at h ⊢
  rw [set_in h i (.int .i64 x)]
  simp [List.map_set]
theorem LB.ints {w : World} {g : Nat} {l : List Int} (h : LB w g l) (hl : l.length ≤ maxLen) {ok : Nat → Prop} (hg : ok g) : HInts ok w (.slice (some ⟨g, 0, none⟩) l.length l.length) l := by
  refine ⟨fun i => [.int .i64 (l.getD i 0)], ⟨some ⟨g, 0, none⟩, l.length, rfl, Nat.le_refl _, hl, fun _ => ⟨g, 0, rfl, hg, h.lt, fun i hi => ⟨rfl, fun j hj => ?_⟩⟩⟩, fun i hi => by simp [hi]⟩
  have e : j = 0 := by omega
  subst e
  rw [Nat.zero_add, Nat.mul_one, Nat.add_zero, h.at hi]
  simp [hi]
end Go.Proofs.YtbiomnnlpafciaaDoor
namespace Go.Proofs.YtbiomnnlpafciaaDoor
open Go.RowKit Go.IntWalk
set_option linter.unusedVariables false
set_option linter.unusedSimpArgs false
theorem HPu.past {ok : Nat → Prop} {w w' : World} {cb : Nat} {v : Value} {l : List Pu} (h : HPu ok w v l) (a : Aside [cb] w.heap.size w w') (hok : ∀ i, ok i → i ≠ cb) : HPu ok w' v l := h.keep a.size fun i hi hl => a.block i hl (by simpa using hok i hi)
end Go.Proofs.YtbiomnnlpafciaaDoor
namespace Go.Proofs.YtbiomnnlpafciaaDoor
open Go.RowKit Go.IntWalk
set_option linter.unusedVariables false
set_option linter.unusedSimpArgs false
theorem HInts.past {ok : Nat → Prop} {w w' : World} {cb : Nat} {v : Value} {l : List Int} (h : HInts ok w v l) (a : Aside [cb] w.heap.size w w') (hok : ∀ i, ok i → i ≠ cb) : HInts ok w' v l := h.keep a.size fun i hi hl => a.block i hl (by simpa using hok i hi)
end Go.Proofs.YtbiomnnlpafciaaDoor
namespace Go.Proofs.YtbiomnnlpafciaaDoor
open Go.RowKit Go.IntWalk
set_option linter.unusedVariables false
set_option linter.unusedSimpArgs false
theorem HInts.at2 {ok : Nat → Prop} {w : World} {v : Value} {l : List Int} (h : HInts ok w v l) :
    ∃ ao cap, v = .slice ao l.length cap ∧ l.length ≤ cap ∧ cap ≤ maxLen ∧ ∀ i (h : i < l.length), ∃ b o, ao = some ⟨b, o, none⟩ ∧ b < w.heap.size ∧ ok b ∧ w.cell? ⟨b, o + i, none⟩ = some (.int .i64 l[i]) := by
  have h0 := h
  obtain ⟨ao, cap, e, h1, h2, hat⟩ := h.at
  obtain ⟨C, ⟨ao2, cap2, hv, -, -, h3⟩, -⟩ := h0
  rw [e] at hv
  injection hv with q1 q2 q3
  subst q1 q3
  refine ⟨ao, cap, e, h1, h2, fun i hi => ?_⟩
  obtain ⟨b, o, ha, hb, hc⟩ := hat i hi
  obtain ⟨b2, o2, ha2, hob, -, -⟩ := h3 (by omega)
  rw [ha] at ha2
  injection ha2 with ha2
  injection ha2 with z1 z2
  subst z1
  exact ⟨b, o, ha, hb, hob, hc⟩
theorem OwnL.less {α : Type} {T : Kind α} {B B' : Nat} {w : World} {v : Value} {l : List α} (h : OwnL T B w v l) (hB : B' ≤ B) : OwnL T B' w v l := by
  obtain ⟨D, ⟨o1, o2⟩, o3⟩ := h
  refine ⟨D, ⟨o1, ?_⟩, fun j hj => T.wide (o3 j hj) fun q hq _ => ⟨Nat.le_trans hB hq.1, hq.2⟩⟩
  rcases o2 with q | ⟨g, cap, cur, e1, e2, e3⟩
  · exact .inl q
  · exact .inr ⟨g, cap, cur, e1, Nat.le_trans hB e2, e3⟩
end Go.Proofs.YtbiomnnlpafciaaDoor
namespace Go.Proofs.YtbiomnnlpafciaaDoor
open Go.RowKit Go.IntWalk
set_option linter.unusedVariables false
set_option linter.unusedSimpArgs false
/-- n steps in block g, what they have elsewhere -/
def StepsAt (w : World) (g : Nat) (z : Nat → Prop) (n : Nat) (Q : Nat → Lo.Sp) : Prop := ∃ cur : Array Value, w.heap[g]? = some (.cells cur 62 (0, 0)) ∧ n * 6 ≤ cur.size ∧ ∀ j, j < n → ∃ y : SpV, SpAt w g (j * 6) (Q j) y ∧ HSp (fun b => b ≠ g ∧ z b) w y (Q j)
theorem StepsAt.of {ok : Nat → Prop} {z : Nat → Prop} (hz : ∀ i, ok i → z i) {w : World} {v : Value} {l : List Lo.Sp} (h : OwnX kSp ok w v l) (hl : 0 < l.length) : ∃ g c, v = .slice (some ⟨g, 0, none⟩) l.length c ∧ l.length ≤ c ∧ c ≤ maxLen ∧ StepsAt w g z l.length (fun j => l.getD j ⟨0, 0, 0, 0, [], []⟩) := by
  obtain ⟨D, h1, h2, h3⟩ := h
  obtain ⟨g, cap, hv, q1, q2, q3, q4, q5⟩ := owns_pos h1 hl
  have h1b := h1.2
  rcases h1b with ⟨e0, e1⟩ | ⟨g', cap', cur, e1, e2, e3, e4, e5, e6, e7⟩
  · omega
  · subst e1
    refine ⟨g', cap', rfl, e4, e5, cur, e3, by rw [e6]; exact Nat.mul_le_mul_right 6 e4, fun j hj => ?_⟩
    obtain ⟨y, ey, hy⟩ := h3 j hj
    have hq : l.getD j ⟨0, 0, 0, 0, [], []⟩ = l[j] := by rw [List.getD_eq_getElem?_getD, List.getElem?_eq_getElem hj]; rfl
    show ∃ y, SpAt w g' (j * 6) (l.getD j ⟨0, 0, 0, 0, [], []⟩) y ∧ HSp (fun b => b ≠ g' ∧ z b) w y (l.getD j ⟨0, 0, 0, 0, [], []⟩)
    rw [hq]
    have hg : ∀ i, i < 6 → w.cell? ⟨g', j * 6 + i, none⟩ = (D j)[i]? := fun i hi => by
      have e8 := flat_get (k := 6) l.length (fun i hi => kSp.len (h3 i hi)) j i hj hi
      have e9 : cur.toList[j * 6 + i]? = (flat D l.length)[j * 6 + i]? := by
        rw [← e7, List.getElem?_take_of_lt]
        show j * 6 + i < l.length * 6
        omega
      rw [cell_of e3, ← Array.getElem?_toList, e9, e8]
    rw [ey] at hg
    refine ⟨y, ⟨hg 0 (by decide), hg 1 (by decide), hg 2 (by decide), hg 3 (by decide), hg 4 (by decide), hg 5 (by decide)⟩, hy.wide fun i hi _ => ?_⟩
    have := hi.2
    exact ⟨fun e => this (by rw [e]; rfl), hz _ hi.1⟩
theorem StepsAt.row {w : World} {g n c : Nat} {z : Nat → Prop} {Q : Nat → Lo.Sp} {l : List Lo.Sp} (h : StepsAt w g z n Q) (hn : n = l.length) (hQ : ∀ j (h : j < l.length), Q j = l[j]) (h1 : n ≤ c) (h2 : c ≤ maxLen) (hgz : z g) : HSps z w (.slice (some ⟨g, 0, none⟩) n c) l := by
  classical
  obtain ⟨cur, e1, e2, e3⟩ := h
  subst hn
  obtain ⟨f, hf⟩ : ∃ f : Nat → SpV, ∀ j (hj : j < l.length), SpAt w g (j * 6) l[j] (f j) ∧ HSp (fun b => b ≠ g ∧ z b) w (f j) l[j] := by
    have e4 : ∀ j (hj : j < l.length), ∃ y, SpAt w g (j * 6) l[j] y ∧ HSp (fun b => b ≠ g ∧ z b) w y l[j] := fun j hj => by
      rw [← hQ j hj]
      exact e3 j hj
    refine ⟨fun j => if hj : j < l.length then Classical.choose (e4 j hj) else ⟨none, 0, 0, none, 0, 0⟩, fun j hj => ?_⟩
    have := Classical.choose_spec (e4 j hj)
    simpa only [dif_pos hj] using this
  refine ⟨fun j => scs (l.getD j ⟨0, 0, 0, 0, [], []⟩) (f j), ⟨_, _, rfl, h1, h2, fun h0 => ⟨g, 0, rfl, hgz, lt_of e1, fun j hj => ⟨rfl, fun i hi => ?_⟩⟩⟩, fun j hj => ⟨f j, ?_, (hf j hj).2.wide fun i hi _ => hi.2⟩⟩
  · have hq : l.getD j ⟨0, 0, 0, 0, [], []⟩ = l[j] := by rw [List.getD_eq_getElem?_getD, List.getElem?_eq_getElem hj]; rfl
    show w.cell? ⟨g, 0 + j * 6 + i, none⟩ = (scs (l.getD j ⟨0, 0, 0, 0, [], []⟩) (f j))[i]?
    rw [hq]
    obtain ⟨c0, c1, c2, c3, c4, c5⟩ := (hf j hj).1
    rw [Nat.zero_add]
    have hi2 : i = 0 ∨ i = 1 ∨ i = 2 ∨ i = 3 ∨ i = 4 ∨ i = 5 := by omega
    rcases hi2 with rfl | rfl | rfl | rfl | rfl | rfl
    · exact c0
    · exact c1
    · exact c2
    · exact c3
    · exact c4
    · exact c5
  · show scs (l.getD j ⟨0, 0, 0, 0, [], []⟩) (f j) = scs l[j] (f j)
    rw [List.getD_eq_getElem?_getD, List.getElem?_eq_getElem hj]
    rfl
end Go.Proofs.YtbiomnnlpafciaaDoor
namespace Go.Proofs.YtbiomnnlpafciaaDoor
open Go.RowKit Go.IntWalk
set_option linter.unusedVariables false
set_option linter.unusedSimpArgs false
namespace Lo
/-- a step without the tree that is not looked at -/
def ownS (s : Sp) : Sp := ⟨s.op, s.k, s.n, s.tgt, if folds s then s.F else [], s.E⟩
def d0 : Sp := ⟨0, 0, 0, 0, [], []⟩
end Lo
end Go.Proofs.YtbiomnnlpafciaaDoor
namespace Go.Proofs.YtbiomnnlpafciaaDoor
open Go.RowKit Go.IntWalk
set_option linter.unusedVariables false
set_option linter.unusedSimpArgs false
namespace Lo
theorem fault_zero {L : Lp} (h : (fault L).1 = 0) : fault L = (0, 0) := by
  unfold fault at h ⊢
  split at h
  · cases h
  rename_i h1
  rw [if_neg h1]
  split at h
  · cases h
  rename_i h2
  rw [if_neg h2]
  split at h
  · cases h
  rename_i h3
  rw [if_neg h3]
  split at h
  · cases h
  rename_i h4
  rw [if_neg h4]
end Lo
structure OwnR (N0 cw hi : Nat) (w : World) (a1 a2 a3 : Option Addr) (c1 c2 c3 : Nat) (P G : List Int) (S : List Lo.Sp) : Prop where
  P : HInts (fun i => i < N0 ∨ (cw ≤ i ∧ i < hi)) w (.slice a1 P.length c1) P
  G : HInts (fun i => i < N0 ∨ (cw ≤ i ∧ i < hi)) w (.slice a2 G.length c2) G
  S : HSps (fun i => i < N0 ∨ (cw ≤ i ∧ i < hi)) w (.slice a3 S.length c3) (S.map Lo.ownS)
theorem OwnR.of {N0 cw : Nat} {w : World} {a1 a2 a3 : Option Addr} {c1 c2 c3 : Nat} {P G : List Int} {S : List Lo.Sp} (o1 : HInts (fun i => i < N0 ∨ cw ≤ i) w (.slice a1 P.length c1) P) (o2 : HInts (fun i => i < N0 ∨ cw ≤ i) w (.slice a2 G.length c2) G) (o3 : HSps (fun i => i < N0 ∨ cw ≤ i) w (.slice a3 S.length c3) (S.map Lo.ownS)) : OwnR N0 cw w.heap.size w a1 a2 a3 c1 c2 c3 P G S :=
  ⟨o1.wide fun i h hl => h.elim .inl fun h => .inr ⟨h, hl⟩, o2.wide fun i h hl => h.elim .inl fun h => .inr ⟨h, hl⟩, o3.wide fun i h hl => h.elim .inl fun h => .inr ⟨h, hl⟩⟩
end Go.Proofs.YtbiomnnlpafciaaDoor
namespace Go.Proofs.YtbiomnnlpafciaaDoor
open Go.RowKit Go.IntWalk
set_option linter.unusedVariables false
set_option linter.unusedSimpArgs false
theorem one_row {ok : Nat → Prop} {w : World} {b : Nat} {i : Cd.In} (k : w.heap[b]? = some (.cells #[.int .i64 i.op, .int .i64 i.k, .int .i64 i.r, .int .i64 i.a, .int .i64 i.b, .int .i64 i.n] 72 (0, 0))) (hob : ok b) : HIns ok w (.slice (some ⟨b, 0, none⟩) 1 1) [i] :=
  blk_row kIn (l := [i]) k (fun _ => i.cs) (fun j hj => ⟨rfl, fun q hq => by
    have h1 : j = 0 := by simpa using hj
    subst h1
    rcases lt6 (show q < 6 from hq) with rfl | rfl | rfl | rfl | rfl | rfl <;> rfl⟩) (fun j hj => by
    have h1 : j = 0 := by simpa using hj
    subst h1
    rfl) hob (show 1 ≤ maxLen by decide)
end Go.Proofs.YtbiomnnlpafciaaDoor
namespace Go.Proofs.YtbiomnnlpafciaaDoor
open Go.RowKit Go.IntWalk
set_option linter.unusedVariables false
set_option linter.unusedSimpArgs false
/-- code of the call's own: it lies in block k (and not in block cb) -/
def OwnC (cb k : Nat) (w : World) (v : Value) (C : List Cd.In) : Prop := OwnX kIn (fun i => i = k ∧ i ≠ cb) w v C
/-- a coder in memory: block cb; its code lies in block k -/
structure CO (w : World) (cb k : Nat) (v : Value) (C : List Cd.In) (R : Int) : Prop where
  m : w.heap[cb]? = some (.cells #[v, .int .i64 R] 64 (0, 0))
  own : OwnC cb k w v C
  lt : k < w.heap.size
theorem CO.past {w w' : World} {cb k : Nat} {v : Value} {C : List Cd.In} {R : Int} (h : CO w cb k v C R) {S : List Nat} (a : Aside S w.heap.size w w') (h1 : cb ∉ S) (h2 : k ∉ S) : CO w' cb k v C R :=
  ⟨(a.block _ (lt_of h.m) h1).trans h.m, h.own.keep a.size (fun i hi hl => a.block i hl (by rw [hi.1]; exact h2)), Nat.lt_of_lt_of_le h.lt a.size⟩
theorem CO.under {w w' : World} {cb k : Nat} {v : Value} {C : List Cd.In} {R : Int} (h : CO w cb k v C R) (b : Below w.heap.size w w') : CO w' cb k v C R := h.past (aside (S := []) b) (by simp) (by simp)
/-- so many instructions more, and nothing else but its own memory -/
structure CP (w : World) (cb k : Nat) (C : List Cd.In) (R : Int) (e : Ending) (w' : World) : Prop where
  e : e = .returned (.tuple #[])
  o : ∃ k' v', CO w' cb k' v' C R ∧ (k' = k ∨ w.heap.size ≤ k')
  a : Aside [cb, k] w.heap.size w w'
/-- from one call to the next -/
theorem aside_next {cb k k' : Nat} {w w1 w2 : World} (a : Aside [cb, k] w.heap.size w w1) (hk : k' = k ∨ w.heap.size ≤ k') (b : Aside [cb, k'] w1.heap.size w1 w2) : Aside [cb, k] w.heap.size w w2 :=
  ⟨b.os.trans a.os, b.tape.trans a.tape, b.output.trans a.output, Nat.le_trans a.size b.size, fun i hi hs => (b.block i (Nat.lt_of_lt_of_le hi a.size) (by
    simp only [List.mem_cons, List.not_mem_nil, or_false] at hs ⊢
    rcases hk with rfl | hk
    · exact hs
    · omega)).trans (a.block i hi hs)⟩
theorem next_own {N n k k' k2 : Nat} (hk : k' = k ∨ N ≤ k') (h2 : k2 = k' ∨ n ≤ k2) (hN : N ≤ n) : k2 = k ∨ N ≤ k2 := by omega
theorem toCell44_any (r : Int) (op k n t : Int) {aF aE : Option Addr} {nF cF nE cE : Nat} (w : World) : Calls Tryd.prog 44 #[.int .i64 r, .agg #[.int .i64 op, .int .i64 k, .int .i64 n, .int .i64 t, .slice aF nF cF, .slice aE nE cE]] w fun e w' => e = .returned (.agg #[.int .i64 4, .int .i64 0, .int .i64 r, .int .i64 0, .int .i64 0, .int .i64 t]) ∧ Below w.heap.size w w' := by
  go_enter Tryd.func44, Tryd.ntmps44
  go_wp2
  exact bodyPost_ret (v := .agg #[.int .i64 4, .int .i64 0, .int .i64 r, .int .i64 0, .int .i64 0, .int .i64 t]) (by simp [results, Tryd.results44, go_sem]) rfl ⟨rfl, ((Below.refl _ _).alloc (Nat.le_refl _) _).alloc (by simp) _⟩
theorem toTurn46_any (r : Int) (op k n t : Int) {aF aE : Option Addr} {nF cF nE cE : Nat} (w : World) : Calls Tryd.prog 46 #[.int .i64 r, .agg #[.int .i64 op, .int .i64 k, .int .i64 n, .int .i64 t, .slice aF nF cF, .slice aE nE cE]] w fun e w' => e = .returned (.agg #[.int .i64 5, .int .i64 0, .int .i64 r, .int .i64 0, .int .i64 n, .int .i64 t]) ∧ Below w.heap.size w w' := by
  go_enter Tryd.func46, Tryd.ntmps46
  go_wp2
  exact bodyPost_ret (v := .agg #[.int .i64 5, .int .i64 0, .int .i64 r, .int .i64 0, .int .i64 n, .int .i64 t]) (by simp [results, Tryd.results46, go_sem]) rfl ⟨rfl, ((Below.refl _ _).alloc (Nat.le_refl _) _).alloc (by simp) _⟩
theorem join48_any (k : Int) (w : World) : Calls Tryd.prog 48 #[.int .i64 k] w fun e w' => e = .returned (.agg #[.int .i64 7, .int .i64 k, .int .i64 1, .int .i64 1, .int .i64 2, .int .i64 0]) ∧ Below w.heap.size w w' := by
  go_enter Tryd.func48, Tryd.ntmps48
  go_wp2
  exact bodyPost_ret (v := .agg #[.int .i64 7, .int .i64 k, .int .i64 1, .int .i64 1, .int .i64 2, .int .i64 0]) (by simp [results, Tryd.results48, go_sem]) rfl ⟨rfl, (Below.refl _ _).alloc (Nat.le_refl _) _⟩
theorem taken70_any (op k v n : Int) (w : World) : Calls Tryd.prog 70 #[.agg #[.int .i64 op, .int .i64 k, .int .i64 v, .int .i64 n]] w fun e w' => e = .returned (.int .i64 (Lo.tk op)) ∧ Below w.heap.size w w' := by
  have b1 : Below w.heap.size w (w.alloc (.cells #[.int .i64 op, .int .i64 k, .int .i64 v, .int .i64 n] 59 (0, 0))) := (Below.refl _ _).alloc (Nat.le_refl _) _
  unfold Lo.tk
  by_cases h5 : op = 5
  · subst h5
    go_enter Tryd.func70, Tryd.ntmps70
    go_wp2
    go_ret
    exact ⟨rfl, b1⟩
  rw [if_neg h5]
  have g5 : (op == 5) = false := by simpa using h5
  by_cases h6 : op = 6
  · subst h6
    go_enter Tryd.func70, Tryd.ntmps70
    go_wp2
    go_ret
    exact ⟨rfl, b1⟩
  have g6 : (op == 6) = false := by simpa using h6
  by_cases h8 : op = 8
  · subst h8
    go_enter Tryd.func70, Tryd.ntmps70
    go_wp2
    go_ret
    exact ⟨rfl, b1⟩
  have g8 : (op == 8) = false := by simpa using h8
  rw [if_neg (by omega)]
  by_cases h7 : op = 7
  · subst h7
    go_enter Tryd.func70, Tryd.ntmps70
    go_wp2
    go_ret
    exact ⟨rfl, b1⟩
  have g7 : (op == 7) = false := by simpa using h7
  rw [if_neg h7]
  clear h5 h6 h7 h8
  go_enter Tryd.func70, Tryd.ntmps70
  go_wp2
  go_ret
  exact ⟨rfl, b1⟩
set_option maxHeartbeats 4000000 in
theorem cellOfTurn83_any (op k v n r tn : Int) (w : World) : Calls Tryd.prog 83 #[.agg #[.int .i64 op, .int .i64 k, .int .i64 v, .int .i64 n], .int .i64 r, .int .i64 tn] w fun e w' => e = .returned (.agg #[.int .i64 (if tn = 0 then 2 else 3), .int .i64 0, .int .i64 r, .int .i64 0, .int .i64 tn, .int .i64 v]) ∧ Below w.heap.size w w' := by
  by_cases h : tn = 0
  · subst h
    rw [if_pos rfl]
    go_enter Tryd.func83, Tryd.ntmps83
    go_wp2
    exact bodyPost_ret (v := .agg #[.int .i64 2, .int .i64 0, .int .i64 r, .int .i64 0, .int .i64 0, .int .i64 v]) (by simp [results, Tryd.results83, go_sem]) rfl ⟨rfl, ((Below.refl _ _).alloc (Nat.le_refl _) _).alloc (by simp) _⟩
  · rw [if_neg h]
    have g : (tn == 0) = false := by simpa using h
    go_enter Tryd.func83, Tryd.ntmps83
    go_wp2
    exact bodyPost_ret (v := .agg #[.int .i64 3, .int .i64 0, .int .i64 r, .int .i64 0, .int .i64 tn, .int .i64 v]) (by simp [results, Tryd.results83, go_sem]) rfl ⟨rfl, ((Below.refl _ _).alloc (Nat.le_refl _) _).alloc (by simp) _⟩
end Go.Proofs.YtbiomnnlpafciaaDoor
