/-
  DERIVED. THE WALK of the copy of sizes.
-/
import Derived.Test.YtjpjedigajiomaaCp1
namespace Go.Proofs.Ytjpjedigajiomaa
open Go.RowKit Go.IntWalk
set_option linter.unusedVariables false
set_option linter.unusedSimpArgs false
set_option maxRecDepth 100000

/-- the row that v is, or a new block -/
def Moved (W : World) (v v' : Value) : Prop := v'.ownBlock = v.ownBlock ∨ ∃ k, v'.ownBlock = some k ∧ W.heap.size ≤ k
/-- what lies from B on, but not in v's row -/
def Off (B : Nat) (v : Value) (k : Nat) : Prop := B ≤ k ∧ some k ≠ v.ownBlock
theorem Off.moved {B : Nat} {W : World} {v v' : Value} (h : Moved W v v') {k : Nat} (hk : Off B v k) (hl : k < W.heap.size) : Off B v' k := by
  refine ⟨hk.1, fun e => ?_⟩
  rcases h with h | ⟨q, hq, hz⟩
  · exact hk.2 (e.trans h)
  · rw [hq] at e
    injection e with e
    omega
theorem Off.new {B N : Nat} {w : World} {e : TypeId} {size : Nat} {v : Value} {n : Nat} {xs : List Value} (h : w.ownsRow B e size v n xs) (hN : w.heap.size ≤ N) (hB : B ≤ N) {k : Nat} (hk : N ≤ k) : Off B v k := by
  refine ⟨by omega, fun e => ?_⟩
  have := World.ownsRow.lt h k e.symm
  omega
theorem grown_keep {B : Nat} {W W' : World} {v : Value} (h : W.grownBy W' v.ownBlock) : ∀ k, Off B v k → k < W.heap.size → W'.heap[k]? = W.heap[k]? := fun k hk hl => h.block k hl hk.2
theorem Below.push {B : Nat} {w W W' : World} {v : Value} {e : TypeId} {size n : Nat} {xs : List Value} (hb : Below B w W) (hB : B ≤ W.heap.size) (ho : W.ownsRow B e size v n xs) (hg : W.grownBy W' v.ownBlock) : Below B w W' :=
  hb.grown hg hB (fun k hk => (World.ownsRow.lt ho k hk).1)

end Go.Proofs.Ytjpjedigajiomaa


/-
  DERIVED. THE WALK of the copy of declarations.
-/
namespace Go.Proofs.Ytjpjedigajiomaa
open Go.RowKit Go.IntWalk
set_option linter.unusedVariables false
set_option linter.unusedSimpArgs false
set_option maxRecDepth 100000

def FitD (l : List De) : Prop := l.length * 48 ≤ 140737488355328 ∧ ∀ i (h : i < l.length), (l[i]).n.length * 24 ≤ 140737488355328
theorem HTerms.set {ok : Nat → Prop} {w : World} {v : Value} {l : List Tm} (h : HTerms ok w v l) {p : Addr} (hp : ¬ ok p.block) (u : Value) : HTerms ok (w.setCell p u) v l :=
  h.keep (by simp [World.setCell]) fun i hi hl => Below.heap_setCell _ _ _ _ (fun e => hp (e ▸ hi))

theorem owns_set {w : World} {base : Nat} {e : TypeId} {size : Nat} {v : Value} {n : Nat} {xs : List Value} (h : w.ownsRow base e size v n xs) {p : Addr} (hp : v.ownBlock ≠ some p.block) (u : Value) : (w.setCell p u).ownsRow base e size v n xs :=
  h.kept (row := some p.block) ⟨rfl, rfl, rfl, by simp [World.setCell], fun k _ hk => Below.heap_setCell _ _ _ _ (fun e => hk (by rw [e]))⟩ (.inr hp)

theorem size_set (w : World) (p : Addr) (u : Value) : (w.setCell p u).heap.size = w.heap.size := by simp [World.setCell]
theorem new3s (w : World) (p : Addr) (q a b c : Value) (t : TypeId) : ∀ j u, [a, b, c][j]? = some u → ((w.setCell p q).alloc (.cells #[a, b, c] t)).cell? ((⟨w.heap.size, 0, none⟩ : Addr).add j) = some u := by
  have := new3 (w.setCell p q) a b c t
  rw [size_set] at this
  exact this

end Go.Proofs.Ytjpjedigajiomaa


/-
  DERIVED. THE WALK of the copy of expressions.
-/
namespace Go.Proofs.Ytjpjedigajiomaa
open Go.RowKit Go.IntWalk
set_option linter.unusedVariables false
set_option linter.unusedSimpArgs false
set_option maxRecDepth 100000

inductive FitX : Ex → Prop
  | mk {o k n : Int} {s : ByteArray} {S : List (List Tm)} {L : List Ex} (hS : FitS S) (hL : L.length * 88 ≤ 140737488355328) (hE : ∀ i (h : i < L.length), FitX L[i]) : FitX (.mk o k n s S L)
def FitXs (L : List Ex) : Prop := L.length * 88 ≤ 140737488355328 ∧ ∀ i (h : i < L.length), FitX L[i]
theorem FitX.parts {e : Ex} (h : FitX e) : FitS e.S ∧ FitXs e.L := by
  cases h with
  | mk hS hL hE => exact ⟨hS, hL, hE⟩
theorem HEx.make {ok : Nat → Prop} {w : World} {x : ExV} {e : Ex} (h1 : x.op = e.op) (h2 : x.k = e.k) (h3 : x.n = e.n) (h4 : x.name = e.name) (hS : HSizes ok w (.slice x.aS x.nS x.cS) e.S) (hL : HExs ok w (.slice x.aL x.nL x.cL) e.L) : HEx ok w x.cells e := by
  obtain ⟨o, k, n, s, S, L⟩ := e
  obtain ⟨xo, xk, xn, xs, a, b, c, d, f, g⟩ := x
  simp only [Ex.op, Ex.k, Ex.n, Ex.name, Ex.S, Ex.L] at h1 h2 h3 h4 hS hL
  subst h1 h2 h3 h4
  obtain ⟨C, hl, hE⟩ := hL
  exact .mk C hS hl hE
theorem HExs.wide {ok ok' : Nat → Prop} {w : World} {v : Value} {l : List Ex} (h : HExs ok w v l) (hk : ∀ i, ok i → i < w.heap.size → ok' i) : HExs ok' w v l := by
  obtain ⟨C, h1, h2⟩ := h
  exact ⟨C, h1.wide hk, fun i hi => (h2 i hi).wide hk⟩
theorem HSizes.set {ok : Nat → Prop} {w : World} {v : Value} {l : List (List Tm)} (h : HSizes ok w v l) {p : Addr} (hp : ¬ ok p.block) (u : Value) : HSizes ok (w.setCell p u) v l :=
  h.keep (by simp [World.setCell]) fun i hi hl => Below.heap_setCell _ _ _ _ (fun e => hp (e ▸ hi))
theorem HExs.set {ok : Nat → Prop} {w : World} {v : Value} {l : List Ex} (h : HExs ok w v l) {p : Addr} (hp : ¬ ok p.block) (u : Value) : HExs ok (w.setCell p u) v l :=
  h.keep (by simp [World.setCell]) fun i hi hl => Below.heap_setCell _ _ _ _ (fun e => hp (e ▸ hi))
theorem new6s (w : World) (p : Addr) (q a b c d e f : Value) (t : TypeId) : ∀ j u, [a, b, c, d, e, f][j]? = some u → ((w.setCell p q).alloc (.cells #[a, b, c, d, e, f] t)).cell? ((⟨w.heap.size, 0, none⟩ : Addr).add j) = some u := by
  intro j u hj
  have hn := heap_new (w.setCell p q) (.cells #[a, b, c, d, e, f] t (0, 0))
  rw [size_set] at hn
  have adds : (⟨w.heap.size, 0, none⟩ : Addr).add j = ⟨w.heap.size, j, none⟩ := by unfold Addr.add; split <;> simp_all
  rw [adds, cell_of hn]
  rw [List.getElem?_toArray]
  exact hj
end Go.Proofs.Ytjpjedigajiomaa
