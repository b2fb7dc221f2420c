import Derived.Test.YtkgbmgpdehmiiaaDoorY01
import Derived.Deep.RegionWith
import Derived.Deep.LoopGhost
set_option linter.unusedVariables false
set_option linter.unusedSimpArgs false
set_option maxHeartbeats 64000000
set_option maxRecDepth 100000
namespace Go.Proofs.YtkgbmgpdehmiiaaDoor
open Go.RowKit Go.IntWalk
set_option linter.unusedVariables false
set_option linter.unusedSimpArgs false
/-- six cells of an expression at a place -/
def ExAt (w : World) (b o : Nat) (y : ExV) : Prop :=
  w.cell? ⟨b, o, none⟩ = some (.int .i64 y.op) ∧ w.cell? ⟨b, o + 1, none⟩ = some (.int .i64 y.k) ∧ w.cell? ⟨b, o + 2, none⟩ = some (.int .i64 y.n) ∧
  w.cell? ⟨b, o + 3, none⟩ = some (.string y.name) ∧ w.cell? ⟨b, o + 4, none⟩ = some (.slice y.aS y.nS y.cS) ∧ w.cell? ⟨b, o + 5, none⟩ = some (.slice y.aL y.nL y.cL)
theorem ExAt.keep {w w' : World} {b o : Nat} {y : ExV} (h : ExAt w b o y) (hb : w'.heap[b]? = w.heap[b]?) : ExAt w' b o y := by
  have hc : ∀ q, w'.cell? ⟨b, q, none⟩ = w.cell? ⟨b, q, none⟩ := fun q => World.cell?_of_block (w := w) hb
  obtain ⟨h0, h1, h2, h3, h4, h5⟩ := h
  exact ⟨(hc _).trans h0, (hc _).trans h1, (hc _).trans h2, (hc _).trans h3, (hc _).trans h4, (hc _).trans h5⟩
theorem Sl.exAt {ok : Nat → Prop} {w : World} {v : Value} {L : List Ex} {C : Nat → List Value} (hL : Sl ok 6 w v L.length C) (hE : ∀ i (h : i < L.length), HEx ok w (C i) L[i]) :
    ∃ ao cap, v = .slice ao L.length cap ∧ L.length ≤ cap ∧ cap ≤ maxLen ∧ ∀ i (h : i < L.length), ∃ b o y, ao = some ⟨b, o, none⟩ ∧ ok b ∧ b < w.heap.size ∧ ExAt w b (o + i * 6) y ∧ HEx ok w y.cells L[i] := by
  obtain ⟨ao, cap, hv, h1, h2, h3⟩ := hL
  refine ⟨ao, cap, hv, h1, h2, fun i hi => ?_⟩
  obtain ⟨b, o, ha, hob, hb, hc⟩ := h3 (by omega)
  obtain ⟨y, hy, hex⟩ := (hE i hi).toV
  have hcc := (hc i hi).2
  rw [hy] at hcc
  exact ⟨b, o, y, ha, hob, hb, ⟨hcc 0 (by decide), hcc 1 (by decide), hcc 2 (by decide), hcc 3 (by decide), hcc 4 (by decide), hcc 5 (by decide)⟩, hex⟩
end Go.Proofs.YtkgbmgpdehmiiaaDoor
namespace Go.Proofs.YtkgbmgpdehmiiaaDoor
open Go.RowKit Go.IntWalk
set_option linter.unusedVariables false
set_option linter.unusedSimpArgs false
/-- a slice of expressions -/
def HExs (ok : Nat → Prop) (w : World) (v : Value) (L : List Ex) : Prop := ∃ C, Sl ok 6 w v L.length C ∧ ∀ i (h : i < L.length), HEx ok w (C i) L[i]
theorem HExs.keep {ok : Nat → Prop} {w w' : World} {v : Value} {l : List Ex} (h : HExs ok w v l) (hs : w.heap.size ≤ w'.heap.size) (hk : ∀ i, ok i → i < w.heap.size → w'.heap[i]? = w.heap[i]?) : HExs ok w' v l := by
  obtain ⟨C, h1, h2⟩ := h
  exact ⟨C, h1.keep hs hk, fun i hi => (h2 i hi).keep hs hk⟩
theorem HExs.under {ok : Nat → Prop} {w w' : World} {v : Value} {l : List Ex} (h : HExs ok w v l) (a : Below w.heap.size w w') : HExs ok w' v l := h.keep a.size fun i _ hl => a.block i hl
theorem HExs.at {ok : Nat → Prop} {w : World} {v : Value} {L : List Ex} (h : HExs ok w v L) :
    ∃ ao cap, v = .slice ao L.length cap ∧ L.length ≤ cap ∧ cap ≤ maxLen ∧ ∀ i (h : i < L.length), ∃ b o y, ao = some ⟨b, o, none⟩ ∧ ok b ∧ b < w.heap.size ∧ ExAt w b (o + i * 6) y ∧ HEx ok w y.cells L[i] := by
  obtain ⟨C, h1, h2⟩ := h
  exact h1.exAt h2
end Go.Proofs.YtkgbmgpdehmiiaaDoor
namespace Go.Proofs.YtkgbmgpdehmiiaaDoor
open Go.RowKit Go.IntWalk
set_option linter.unusedVariables false
set_option linter.unusedSimpArgs false
structure EqV where
  place : Int
  aN : Option Addr
  nN : Nat
  cN : Nat
  node : ByteArray
  aS : Option Addr
  nS : Nat
  cS : Nat
  aE : Option Addr
  nE : Nat
  cE : Nat
def EqV.cells (x : EqV) : List Value := [.int .i64 x.place, .slice x.aN x.nN x.cN, .string x.node, .slice x.aS x.nS x.cS, .slice x.aE x.nE x.cE]
/-- an equation's five cells -/
structure HEq (ok : Nat → Prop) (w : World) (x : EqV) (q : Eqn) : Prop where
  place : x.place = q.place
  names : HNames ok w (.slice x.aN x.nN x.cN) q.names
  node : x.node = q.node
  S : HSizes ok w (.slice x.aS x.nS x.cS) q.S
  E : HExs ok w (.slice x.aE x.nE x.cE) q.E
theorem HEq.keep {ok : Nat → Prop} {w w' : World} {x : EqV} {q : Eqn} (h : HEq ok w x q) (hs : w.heap.size ≤ w'.heap.size) (hk : ∀ i, ok i → i < w.heap.size → w'.heap[i]? = w.heap[i]?) : HEq ok w' x q :=
  ⟨h.place, h.names.keep hs hk, h.node, h.S.keep hs hk, h.E.keep hs hk⟩
theorem HEq.under {ok : Nat → Prop} {w w' : World} {x : EqV} {q : Eqn} (h : HEq ok w x q) (a : Below w.heap.size w w') : HEq ok w' x q := h.keep a.size fun i _ hl => a.block i hl
/-- five cells of an equation at a place -/
def EqAt (w : World) (b o : Nat) (y : EqV) : Prop :=
  w.cell? ⟨b, o, none⟩ = some (.int .i64 y.place) ∧ w.cell? ⟨b, o + 1, none⟩ = some (.slice y.aN y.nN y.cN) ∧ w.cell? ⟨b, o + 2, none⟩ = some (.string y.node) ∧
  w.cell? ⟨b, o + 3, none⟩ = some (.slice y.aS y.nS y.cS) ∧ w.cell? ⟨b, o + 4, none⟩ = some (.slice y.aE y.nE y.cE)
theorem EqAt.keep {w w' : World} {b o : Nat} {y : EqV} (h : EqAt w b o y) (hb : w'.heap[b]? = w.heap[b]?) : EqAt w' b o y := by
  have hc : ∀ q, w'.cell? ⟨b, q, none⟩ = w.cell? ⟨b, q, none⟩ := fun q => World.cell?_of_block (w := w) hb
  obtain ⟨h0, h1, h2, h3, h4⟩ := h
  exact ⟨(hc _).trans h0, (hc _).trans h1, (hc _).trans h2, (hc _).trans h3, (hc _).trans h4⟩
/-- a slice of equations -/
def HEqs (ok : Nat → Prop) (w : World) (v : Value) (l : List Eqn) : Prop := ∃ C, Sl ok 5 w v l.length C ∧ ∀ i (h : i < l.length), ∃ x, C i = x.cells ∧ HEq ok w x l[i]
theorem HEqs.keep {ok : Nat → Prop} {w w' : World} {v : Value} {l : List Eqn} (h : HEqs ok w v l) (hs : w.heap.size ≤ w'.heap.size) (hk : ∀ i, ok i → i < w.heap.size → w'.heap[i]? = w.heap[i]?) : HEqs ok w' v l := by
  obtain ⟨C, h1, h2⟩ := h
  refine ⟨C, h1.keep hs hk, fun i hi => ?_⟩
  obtain ⟨x, e, hx⟩ := h2 i hi
  exact ⟨x, e, hx.keep hs hk⟩
theorem HEqs.under {ok : Nat → Prop} {w w' : World} {v : Value} {l : List Eqn} (h : HEqs ok w v l) (a : Below w.heap.size w w') : HEqs ok w' v l := h.keep a.size fun i _ hl => a.block i hl
theorem HEqs.at {ok : Nat → Prop} {w : World} {v : Value} {l : List Eqn} (h : HEqs ok w v l) :
    ∃ ao cap, v = .slice ao l.length cap ∧ l.length ≤ cap ∧ cap ≤ maxLen ∧ ∀ i (h : i < l.length), ∃ b o y, ao = some ⟨b, o, none⟩ ∧ b < w.heap.size ∧ EqAt w b (o + i * 5) y ∧ HEq ok w y l[i] := by
  obtain ⟨C, ⟨ao, cap, hv, h1, h2, h3⟩, hC⟩ := h
  refine ⟨ao, cap, hv, h1, h2, fun i hi => ?_⟩
  obtain ⟨b, o, ha, hob, hb, hc⟩ := h3 (by omega)
  obtain ⟨x, hx, hq⟩ := hC i hi
  have hcc := (hc i hi).2
  rw [hx] at hcc
  exact ⟨b, o, x, ha, hb, ⟨hcc 0 (by decide), hcc 1 (by decide), hcc 2 (by decide), hcc 3 (by decide), hcc 4 (by decide)⟩, hq⟩
end Go.Proofs.YtkgbmgpdehmiiaaDoor
namespace Go.Proofs.YtkgbmgpdehmiiaaDoor
open Go.RowKit Go.IntWalk
set_option linter.unusedVariables false
set_option linter.unusedSimpArgs false
structure NdV where
  name : ByteArray
  place : Int
  a2 : Option Addr
  n2 : Nat
  c2 : Nat
  a3 : Option Addr
  n3 : Nat
  c3 : Nat
  a4 : Option Addr
  n4 : Nat
  c4 : Nat
  a5 : Option Addr
  n5 : Nat
  c5 : Nat
  a6 : Option Addr
  n6 : Nat
  c6 : Nat
def NdV.cells (x : NdV) : List Value := [.string x.name, .int .i64 x.place, .slice x.a2 x.n2 x.c2, .slice x.a3 x.n3 x.c3, .slice x.a4 x.n4 x.c4, .slice x.a5 x.n5 x.c5, .slice x.a6 x.n6 x.c6]
/-- a node's seven cells -/
structure HNd (ok : Nat → Prop) (w : World) (x : NdV) (n : Nd) : Prop where
  name : x.name = n.name
  place : x.place = n.place
  sizes : HNames ok w (.slice x.a2 x.n2 x.c2) n.sizes
  inn : HDes ok w (.slice x.a3 x.n3 x.c3) n.inn
  out : HDes ok w (.slice x.a4 x.n4 x.c4) n.out
  loc : HDes ok w (.slice x.a5 x.n5 x.c5) n.loc
  eqs : HEqs ok w (.slice x.a6 x.n6 x.c6) n.eqs
theorem HNd.keep {ok : Nat → Prop} {w w' : World} {x : NdV} {n : Nd} (h : HNd ok w x n) (hs : w.heap.size ≤ w'.heap.size) (hk : ∀ i, ok i → i < w.heap.size → w'.heap[i]? = w.heap[i]?) : HNd ok w' x n :=
  ⟨h.name, h.place, h.sizes.keep hs hk, h.inn.keep hs hk, h.out.keep hs hk, h.loc.keep hs hk, h.eqs.keep hs hk⟩
theorem HNd.under {ok : Nat → Prop} {w w' : World} {x : NdV} {n : Nd} (h : HNd ok w x n) (a : Below w.heap.size w w') : HNd ok w' x n := h.keep a.size fun i _ hl => a.block i hl
/-- seven cells of a node at a place -/
def NdAt (w : World) (b o : Nat) (y : NdV) : Prop :=
  w.cell? ⟨b, o, none⟩ = some (.string y.name) ∧ w.cell? ⟨b, o + 1, none⟩ = some (.int .i64 y.place) ∧ w.cell? ⟨b, o + 2, none⟩ = some (.slice y.a2 y.n2 y.c2) ∧ w.cell? ⟨b, o + 3, none⟩ = some (.slice y.a3 y.n3 y.c3) ∧
  w.cell? ⟨b, o + 4, none⟩ = some (.slice y.a4 y.n4 y.c4) ∧ w.cell? ⟨b, o + 5, none⟩ = some (.slice y.a5 y.n5 y.c5) ∧ w.cell? ⟨b, o + 6, none⟩ = some (.slice y.a6 y.n6 y.c6)
theorem NdAt.keep {w w' : World} {b o : Nat} {y : NdV} (h : NdAt w b o y) (hb : w'.heap[b]? = w.heap[b]?) : NdAt w' b o y := by
  have hc : ∀ q, w'.cell? ⟨b, q, none⟩ = w.cell? ⟨b, q, none⟩ := fun q => World.cell?_of_block (w := w) hb
  obtain ⟨h0, h1, h2, h3, h4, h5, h6⟩ := h
  exact ⟨(hc _).trans h0, (hc _).trans h1, (hc _).trans h2, (hc _).trans h3, (hc _).trans h4, (hc _).trans h5, (hc _).trans h6⟩
/-- a slice of nodes -/
def HNds (ok : Nat → Prop) (w : World) (v : Value) (l : List Nd) : Prop := ∃ C, Sl ok 7 w v l.length C ∧ ∀ i (h : i < l.length), ∃ x, C i = x.cells ∧ HNd ok w x l[i]
theorem HNds.keep {ok : Nat → Prop} {w w' : World} {v : Value} {l : List Nd} (h : HNds ok w v l) (hs : w.heap.size ≤ w'.heap.size) (hk : ∀ i, ok i → i < w.heap.size → w'.heap[i]? = w.heap[i]?) : HNds ok w' v l := by
  obtain ⟨C, h1, h2⟩ := h
  refine ⟨C, h1.keep hs hk, fun i hi => ?_⟩
  obtain ⟨x, e, hx⟩ := h2 i hi
  exact ⟨x, e, hx.keep hs hk⟩
theorem HNds.under {ok : Nat → Prop} {w w' : World} {v : Value} {l : List Nd} (h : HNds ok w v l) (a : Below w.heap.size w w') : HNds ok w' v l := h.keep a.size fun i _ hl => a.block i hl
theorem HNds.at {ok : Nat → Prop} {w : World} {v : Value} {l : List Nd} (h : HNds ok w v l) :
    ∃ ao cap, v = .slice ao l.length cap ∧ l.length ≤ cap ∧ cap ≤ maxLen ∧ ∀ i (h : i < l.length), ∃ b o y, ao = some ⟨b, o, none⟩ ∧ b < w.heap.size ∧ NdAt w b (o + i * 7) y ∧ HNd ok w y l[i] := by
  obtain ⟨C, ⟨ao, cap, hv, h1, h2, h3⟩, hC⟩ := h
  refine ⟨ao, cap, hv, h1, h2, fun i hi => ?_⟩
  obtain ⟨b, o, ha, hob, hb, hc⟩ := h3 (by omega)
  obtain ⟨x, hx, hq⟩ := hC i hi
  have hcc := (hc i hi).2
  rw [hx] at hcc
  exact ⟨b, o, x, ha, hb, ⟨hcc 0 (by decide), hcc 1 (by decide), hcc 2 (by decide), hcc 3 (by decide), hcc 4 (by decide), hcc 5 (by decide), hcc 6 (by decide)⟩, hq⟩
end Go.Proofs.YtkgbmgpdehmiiaaDoor
namespace Go.Proofs.YtkgbmgpdehmiiaaDoor
open Go.RowKit Go.IntWalk
set_option linter.unusedVariables false
set_option linter.unusedSimpArgs false
/-- the cells of the first n things, one behind the other -/
def flat (C : Nat → List Value) : Nat → List Value
  | 0 => []
  | n + 1 => flat C n ++ C n
theorem flat_len {C : Nat → List Value} {k : Nat} : ∀ n, (∀ i, i < n → (C i).length = k) → (flat C n).length = n * k
  | 0, _ => by simp [flat]
  | n + 1, h => by
    rw [flat, List.length_append, flat_len n (fun i hi => h i (by omega)), h n (by omega), Nat.succ_mul]
theorem flat_get {C : Nat → List Value} {k : Nat} : ∀ n, (∀ i, i < n → (C i).length = k) → ∀ i j, i < n → j < k → (flat C n)[i * k + j]? = (C i)[j]?
  | 0, _, i, j, hi, _ => absurd hi (Nat.not_lt_zero _)
  | n + 1, h, i, j, hi, hj => by
    have hl := flat_len n (fun i hi => h i (by omega)) (C := C) (k := k)
    rw [flat]
    by_cases e : i = n
    · subst e
      rw [List.getElem?_append_right (by omega), hl]
      congr 1
      omega
    · have hin : i < n := by omega
      have : i * k + j < n * k := by
        have : (i + 1) * k ≤ n * k := Nat.mul_le_mul_right k (by omega)
        rw [Nat.succ_mul] at this
        omega
      rw [List.getElem?_append_left (by omega)]
      exact flat_get n (fun i hi => h i (by omega)) i j hin hj
theorem flat_mem {C : Nat → List Value} : ∀ n u, u ∈ flat C n → ∃ i, i < n ∧ u ∈ C i
  | 0, u, h => by simp [flat] at h
  | n + 1, u, h => by
    rw [flat, List.mem_append] at h
    rcases h with h | h
    · obtain ⟨i, hi, hu⟩ := flat_mem n u h
      exact ⟨i, by omega, hu⟩
    · exact ⟨n, by omega, h⟩
theorem flat_congr {C D : Nat → List Value} : ∀ n, (∀ i, i < n → C i = D i) → flat C n = flat D n
  | 0, _ => rfl
  | n + 1, h => by rw [flat, flat, flat_congr n (fun i hi => h i (by omega)), h n (by omega)]
theorem owns_sl {w : World} {base : Nat} {e : TypeId} {k : Nat} {v : Value} {n : Nat} {C : Nat → List Value} (h : w.ownsRow base e k v n (flat C n)) (hC : ∀ i, i < n → (C i).length = k) : Sl (fun i => base ≤ i) k w v n C := by
  by_cases hn : 0 < n
  · obtain ⟨g, cap, hv, h1, h2, h3, h4, h5⟩ := owns_pos h hn
    refine ⟨_, cap, hv, h3, h4, fun _ => ⟨g, 0, rfl, h1, h2, fun i hi => ⟨hC i hi, fun j hj => ?_⟩⟩⟩
    have hg := flat_get n hC i j hi hj
    have hjl : j < (C i).length := by rw [hC i hi]; exact hj
    have := h5 (i * k + j) ((C i)[j]) (by rw [hg]; exact List.getElem?_eq_getElem hjl)
    rw [Nat.zero_add, this, List.getElem?_eq_getElem hjl]
  · rcases h.2 with ⟨hv, h0⟩ | ⟨g, cap, cur, hv, hb, hg, hnc, hcm, hcs, htake⟩
    · exact ⟨none, 0, by rw [hv, h0], by omega, Nat.zero_le _, fun h => absurd h hn⟩
    · exact ⟨_, cap, hv, hnc, hcm, fun h => absurd h hn⟩
theorem Sl.news {ok : Nat → Prop} {k : Nat} {w : World} {b o : Nat} {n cap : Nat} {C : Nat → List Value} (hk : 0 < k) (h : Sl ok k w (.slice (some ⟨b, o, none⟩) n cap) n C) :
    ∀ q u, (flat C n)[q]? = some u → w.cell? ((⟨b, o, none⟩ : Addr).add q) = some u := by
  intro q u hq
  obtain ⟨ao, cap', hv, h1, h2, h3⟩ := h
  injection hv with e1 e2 e3
  subst e1
  have hlen : (flat C n).length ≤ n * k → q < n * k := fun h => by
    have := (List.getElem?_eq_some_iff.1 hq).1
    omega
  by_cases hn : 0 < n
  · obtain ⟨b', o', ha, _, _, hc⟩ := h3 hn
    injection ha with ha
    injection ha with ha1 ha2 ha3
    subst ha1 ha2
    have hl := flat_len n (fun i hi => (hc i hi).1)
    have hqn : q < n * k := hlen (by omega)
    have hqi : q / k < n := Nat.div_lt_of_lt_mul (by rw [Nat.mul_comm]; exact hqn)
    have hqj : q % k < k := Nat.mod_lt _ hk
    have hq' : q / k * k + q % k = q := by rw [Nat.mul_comm]; exact Nat.div_add_mod q k
    have hg := flat_get n (fun i hi => (hc i hi).1) (q / k) (q % k) hqi hqj
    rw [hq', hq] at hg
    have hcc := (hc (q / k) hqi).2 (q % k) hqj
    rw [← hg, Nat.add_assoc, hq'] at hcc
    have adds : (⟨b, o, none⟩ : Addr).add q = ⟨b, o + q, none⟩ := by unfold Addr.add; split <;> simp_all
    rw [adds]
    exact hcc
  · have : n = 0 := by omega
    subst this
    simp [flat] at hq
/-- append to a row of the call's own: what comes is the same row, or a new block -/
theorem run_push {P : Program} (w : World) (base : Nat) (t ty e : TypeId) (i : TypeInfo) (z : Value) (size bytes : Nat) (ht : P.underlying t = some (.slice e)) (hi : P.info? e = some i) (hz : i.zero = some z)
    (hsize : i.size = size) (hby : i.bytes = bytes) (hzs : z.cells.size = size) (hsz : 0 < size)
    (v : Value) (n : Nat) (xs : List Value) (hown : w.ownsRow base e size v n xs)
    (a : Addr) (m c : Nat) (news : List Value) (hl : news.length = m * size) (hnews : ∀ j u, news[j]? = some u → w.cell? (a.add j) = some u) (h1 : ∀ u ∈ news, u.oneCell' = true)
    (h63 : n + m ≤ maxLen) (hbytes : (n + m) * bytes ≤ 140737488355328) (hbase : base ≤ w.heap.size) :
    ∃ v' w', (Builtin.append_ #[t, t] ty #[v, .slice (some a) m c]).run P w = .ok v' w' ∧ w'.ownsRow base e size v' (n + m) (xs ++ news) ∧ w.grownBy w' v.ownBlock ∧ (v'.ownBlock = v.ownBlock ∨ ∃ k, v'.ownBlock = some k ∧ w.heap.size ≤ k) := by
  obtain ⟨v', w', hr, h2, h3, h4⟩ := run_append_own (P := P) w base t ty e i z size bytes ht hi hz hsize hby hzs hsz v n xs hown a m c news hl hnews h1 h63 hbytes hbase
  refine ⟨v', w', hr, h2, h3, ?_⟩
  have hcell := @World.ownsRow.cells _ _ _ _ _ _ _ hown
  rcases hown.2 with ⟨rfl, h0⟩ | ⟨g, cap, cur, rfl, hb, hg, hnc, hcm, hcs, htake⟩
  · obtain ⟨v2, w2, hr2, h22, _⟩ := run_append_own (P := P) w w.heap.size t ty e i z size bytes ht hi hz hsize hby hzs hsz (.slice none 0 0) n xs ⟨hown.1, .inl ⟨rfl, h0⟩⟩ a m c news hl hnews h1 h63 hbytes (Nat.le_refl _)
    rw [hr] at hr2
    injection hr2 with e1 e2
    subst e1 e2
    rcases h22.2 with ⟨rfl, _⟩ | ⟨g, cap, cur, rfl, hb, _⟩
    · exact .inl rfl
    · exact .inr ⟨g, rfl, hb⟩
  · by_cases hroom : n + m ≤ cap
    · subst hsize
      have hin : ∀ j, j < news.length → 0 + n * i.size + j < cur.size := fun j hj => by
        have : (n + m) * i.size ≤ cap * i.size := Nat.mul_le_mul_right _ hroom
        rw [Nat.add_mul] at this
        rw [hcs]
        omega
      have hr2 := run_append_room_cells (P := P) w t ty e i ht hi g 0 n cap a m c news hl hnews h1 hroom
        (fun j hj => by rw [cell_of hg]; have := hin j hj; simp at this ⊢; omega) (fun j hj => free_of hg _)
      rw [hr] at hr2
      injection hr2 with e1 e2
      subst e1
      exact .inl rfl
    · obtain ⟨v2, w2, hr2, h22, _⟩ := run_append_arg_grows (P := P) w t ty e i z size bytes ht hi hz hsize hby hzs hsz ⟨g, 0, none⟩ n cap xs hown.1 (fun j u hu => @hcell g rfl j u hu) a m c news hl hnews (by omega) h63 hbytes
      rw [hr] at hr2
      injection hr2 with e1 e2
      subst e1 e2
      rcases h22.2 with ⟨rfl, hz0⟩ | ⟨g', cap', cur', rfl, hb', _⟩
      · exfalso
        have : ¬ (0 : Nat) < n + m := by omega
        omega
      · exact .inr ⟨g', rfl, hb'⟩
theorem wpList_push {w : World} {ops : Array Oper} {rest : List Oper} {o : Oper} {a : Act} {Q : Exit → Act → World → Prop} (hgd : o.guard = none) (s x : Operand) (t : TypeId)
    (ho : o.op = .call { callee := .builtin .append, args := #[s, x], argTypes := #[t, t] })
    (base : Nat) (e : TypeId) (i : TypeInfo) (z : Value) (size bytes : Nat) (ht : Tryd.prog.underlying t = some (.slice e)) (hi : Tryd.prog.info? e = some i) (hz : i.zero = some z)
    (hsize : i.size = size) (hby : i.bytes = bytes) (hzs : z.cells.size = size) (hsz : 0 < size)
    (v : Value) (n : Nat) (xs : List Value) (hs : a.eval s = v) (hown : w.ownsRow base e size v n xs)
    (ad : Addr) (m c : Nat) (news : List Value) (hx : a.eval x = .slice (some ad) m c) (hl : news.length = m * size) (hnews : ∀ j u, news[j]? = some u → w.cell? (ad.add j) = some u) (h1 : ∀ u ∈ news, u.oneCell' = true)
    (h63 : n + m ≤ maxLen) (hbytes : (n + m) * bytes ≤ 140737488355328) (hbase : base ≤ w.heap.size)
    (h : ∀ v' w', w'.ownsRow base e size v' (n + m) (xs ++ news) → w.grownBy w' v.ownBlock → (v'.ownBlock = v.ownBlock ∨ ∃ k, v'.ownBlock = some k ∧ w.heap.size ≤ k) → wpList Tryd.prog ops Q rest (a.put o.dst v') w') : wpList Tryd.prog ops Q (o :: rest) a w := by
  obtain ⟨v', w', hr, h2, h3, h4⟩ := run_push (P := Tryd.prog) w base t o.type e i z size bytes ht hi hz hsize hby hzs hsz v n xs hown ad m c news hl hnews h1 h63 hbytes hbase
  refine wpList_plain hgd fun _ hK => ?_
  unfold Oper.wp execOp
  simp only [ho, resolve, invoke, builtin, Sem.run_bind, Sem.run_pure, Result.andThen_ok, List.map_toArray, List.map_cons, List.map_nil, hs, hx, hr]
  exact hK _ _ (h v' w' h2 h3 h4)
end Go.Proofs.YtkgbmgpdehmiiaaDoor
