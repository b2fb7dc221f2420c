/-
  DERIVED. THE WALKS of the reader's allow and decl, and laws on worlds of which a block alone has turned.
-/
import Derived.Test.YtmgaeapckfdbpaaDoorM02
namespace Go.Proofs.YtmgaeapckfdbpaaDoor
open Go.RowKit Go.IntWalk
set_option linter.unusedVariables false
set_option linter.unusedSimpArgs false
set_option maxRecDepth 100000

theorem Aside.alloc {S : List Nat} {B : Nat} {w w' : World} (h : Aside S B w w') (hB : B ≤ w'.heap.size) (o : Obj) : Aside S B w (w'.alloc o) :=
  h.trans (aside ((Below.refl B w').alloc hB o)) (Nat.le_refl _)
theorem Aside.set {S : List Nat} {B : Nat} {w w' : World} (h : Aside S B w w') {p : Addr} (hp : B ≤ p.block) (u : Value) : Aside S B w (w'.setCell p u) :=
  h.trans (aside ((Below.refl B w').setCell hp u)) (Nat.le_refl _)
theorem Aside.drew {S : List Nat} {B : Nat} {w w' : World} (h : Aside S B w w') : Aside S B w w'.drew := ⟨h.os, h.tape, h.output, h.size, h.block⟩
theorem Aside.mono {S : List Nat} {B B' : Nat} {w w' : World} (h : Aside S B w w') (hB : B' ≤ B) : Aside S B' w w' := ⟨h.os, h.tape, h.output, h.size, fun k hk => h.block k (Nat.lt_of_lt_of_le hk hB)⟩

section
variable {w : World} {b g cap : Nat} {L : List Tk.Tok} {len nx op : Nat}
theorem Rd.alloc (h : Rd w b g cap L len nx op) (o : Obj) : Rd (w.alloc o) b g cap L len nx op := h.below ((Below.refl _ w).alloc (Nat.le_refl _) _)
theorem Rd.drew (h : Rd w b g cap L len nx op) : Rd w.drew b g cap L len nx op := h.below (Below.refl _ w).drew
theorem Rd.set (h : Rd w b g cap L len nx op) {p : Addr} (hb : p.block ≠ b) (hg : p.block ≠ g) (u : Value) : Rd (w.setCell p u) b g cap L len nx op :=
  ⟨(Below.heap_setCell _ _ _ _ (fun e => hb e.symm)).trans h.here, h.toks.keep (Below.heap_setCell _ _ _ _ (fun e => hg e.symm)), h.apart, by simpa [World.setCell] using h.gb, h.le, h.lc, h.cm⟩
theorem Rd.bb (h : Rd w b g cap L len nx op) : b < w.heap.size := h.cells.2.2.2.2
end

theorem cell_of {w : World} {k : Nat} {cs : Array Value} {t : TypeId} (h : w.heap[k]? = some (.cells cs t (0, 0))) (o : Nat) : w.cell? ⟨k, o, none⟩ = cs[o]? := by simp [World.cell?, h]
theorem free_of {w : World} {k : Nat} {cs : Array Value} {t : TypeId} (h : w.heap[k]? = some (.cells cs t (0, 0))) (o : Nat) : w.frozen? ⟨k, o, none⟩ = false := by simp [World.frozen?, h]
theorem lt_of {w : World} {k : Nat} {o : Obj} (h : w.heap[k]? = some o) : k < w.heap.size := (Array.getElem?_eq_some_iff.1 h).1

theorem Aside.keep {S : List Nat} {B : Nat} {w w' : World} (a : Aside S B w w') {k : Nat} {x : Obj} (hx : w.heap[k]? = some x) (hk : k < B) (hs : k ∉ S) : w'.heap[k]? = some x := (a.block k hk hs).trans hx
theorem keep_alloc {w : World} {k : Nat} {x : Obj} (hx : w.heap[k]? = some x) (o : Obj) : (w.alloc o).heap[k]? = some x := (Below.heap_alloc _ _ _ (lt_of hx)).trans hx
theorem keep_set {w : World} {k : Nat} {x : Obj} (hx : w.heap[k]? = some x) {p : Addr} (hp : p.block ≠ k) (u : Value) : (w.setCell p u).heap[k]? = some x := (Below.heap_setCell _ _ _ _ (fun e => hp e.symm)).trans hx
theorem set_in {w : World} {k : Nat} {cs : Array Value} {t : TypeId} (h : w.heap[k]? = some (.cells cs t (0, 0))) (o : Nat) (u : Value) : (w.setCell ⟨k, o, none⟩ u).heap[k]? = some (.cells (cs.setIfInBounds o u) t (0, 0)) := by
  simp [World.setCell, Array.getElem?_modify, h]

theorem tokF0 (t : Tk.Tok) (x : ByteArray) (w : World) : (Instr.field 53 (.agg #[.int .i64 t.kind, .int .i64 (t.place : Int), .string x, .int .i64 t.n]) 0).run Tryd.prog w = .ok (.int .i64 t.kind) w := by kernel_rfl
theorem tokF1 (t : Tk.Tok) (x : ByteArray) (w : World) : (Instr.field 53 (.agg #[.int .i64 t.kind, .int .i64 (t.place : Int), .string x, .int .i64 t.n]) 1).run Tryd.prog w = .ok (.int .i64 (t.place : Int)) w := by kernel_rfl

set_option maxHeartbeats 1000000 in
theorem allow_yes (v : Value) (x y : Int) (hxy : x < y) (w : World) :
    Calls Tryd.prog 41 #[v, .int .i64 x, .int .i64 y] w fun e w' => e = .returned (.tuple #[]) ∧ w' = w := by
  have hd : decide (y ≤ x) = false := by simp; omega
  go_enter Tryd.func41, Tryd.ntmps41
  go_wp2
  go_end0
  exact ⟨rfl, rfl⟩

/-- a declaration 'NAME : int', and no size behind it -/
structure DeclInt (L : List Tk.Tok) (len nx : Nat) : Prop where
  lt : nx + 2 < L.length
  name : (peekT L len nx).kind = 2
  colon : ((peekT L len (nx + 1)).text == [58]) = true
  int : ((peekT L len (nx + 2)).text == [105, 110, 116]) = true
  power : ((peekT L len (nx + 3)).text == [94]) = false

set_option maxHeartbeats 4000000 in
theorem decl_int {w : World} {b g cap : Nat} {L : List Tk.Tok} {len nx op : Nat} (h : Rd w b g cap L len nx op) (hd : DeclInt L len nx) :
    Calls Tryd.prog 55 #[.pointer (some ⟨b, 0, none⟩)] w fun e w' => e = .returned (.agg #[.string (str (peekT L len nx).text), .int .u8 105, .slice none 0 0]) ∧ Rd w' b g cap L len (nx + 3) op ∧ Aside [b] w.heap.size w w' := by
  have hlt := hd.lt
  go_enter Tryd.func55, Tryd.ntmps55
  go_wp2_with fail
  refine (name_yes (h.alloc _) hd.name (by omega)).mono ?_
  rintro e w1 ⟨rfl, h1, a1⟩
  go_wp2_with fail
  refine (need_yes (h1.alloc _) _ hd.colon (by omega)).mono ?_
  rintro e w2 ⟨rfl, h2, a2⟩
  go_wp2_with fail
  refine (take_yes h2 _ hd.int (by omega)).mono ?_
  rintro e w3 ⟨rfl, h3, a3⟩
  have hb := h.bb
  have z1 : w.heap.size + 1 ≤ w1.heap.size := by simpa using a1.size
  have z2 : w1.heap.size + 1 ≤ w2.heap.size := by simpa using a2.size
  have z3 := a3.size
  have hg := h.gb
  have hA := a3.keep (a2.keep (keep_alloc (a1.keep (heap_new w _) (by simp) (by simp; omega)) _) (by simp; omega) (by simp; omega)) (by omega) (by simp; omega)
  have hB := a3.keep (a2.keep (heap_new w1 _) (by simp) (by simp; omega)) (by omega) (by simp; omega)
  have cB1 := cell_of hB 1
  have fB1 := free_of hB 1
  go_wp2_with fail
  refine (take_no (h3.set (by simp; omega) (by simp; omega) _) _ hd.power).mono ?_
  rintro e w4 ⟨rfl, b4⟩
  have hA4 := (aside b4 (S := [])).keep (keep_set hA (by simp; omega) _) (by simp [World.setCell]; omega) (by simp)
  have hB4 := (aside b4 (S := [])).keep (set_in hB 1 _) (by simp [World.setCell]; omega) (by simp)
  have z4 : w3.heap.size ≤ w4.heap.size := by simpa [World.setCell] using b4.size
  have cb0 := cell_of hB4 0
  have cb1 := cell_of hB4 1
  have cb2 := cell_of hB4 2
  have ca0 := cell_of hA4 0
  have ca1 := cell_of hA4 1
  have ca2 := cell_of hA4 2
  have fa0 := free_of hA4 0
  have fa1 := free_of hA4 1
  have fa2 := free_of hA4 2
  simp at cb0 cb1 cb2 ca0 ca1 ca2
  go_wp2
  have h4 := (h3.set (p := ⟨w1.heap.size, 1, none⟩) (by simp; omega) (by simp; omega) _).below b4
  have A1 := ((Aside.refl (S := [b]) (B := w.heap.size) w).alloc (Nat.le_refl _) _).trans a1 (by simp)
  have A3 := ((A1.alloc (by omega) _).trans a2 (by simp; omega)).trans a3 (by omega)
  have A4 := (A3.set (p := ⟨w1.heap.size, 1, none⟩) (by simp; omega) _).trans (aside b4) (by simp [World.setCell]; omega)
  refine bodyPost_ret (v := .agg #[.string (str (peekT L len nx).text), .int .u8 105, .slice none 0 0]) (by simp [results, Tryd.results55, go_sem, ca0, ca1, ca2]) rfl ⟨rfl, ?_, ?_⟩
  · exact ((h4.set (by simp; omega) (by simp; omega) _).set (by simp; omega) (by simp; omega) _).set (by simp; omega) (by simp; omega) _
  · exact ((A4.set (by simp) _).set (by simp) _).set (by simp) _

theorem makes (fn : Fn) (first cap : Array Value) (w : World) : (Instr.makeFunc fn first cap).run Tryd.prog w = .ok (.func fn first cap) w := rfl

theorem new3 (w : World) (a b c : Value) (t : TypeId) : ∀ j u, [a, b, c][j]? = some u → (w.alloc (.cells #[a, b, c] t)).cell? ((⟨w.heap.size, 0, none⟩ : Addr).add j) = some u := by
  intro j u hj
  match j, hj with
  | 0, hj => simp at hj; subst hj; simp [Addr.add]
  | 1, hj => simp at hj; subst hj; simp [Addr.add]
  | 2, hj => simp at hj; subst hj; simp [Addr.add]

theorem owns_pos {w : World} {base : Nat} {e : TypeId} {size : Nat} {v : Value} {n : Nat} {xs : List Value} (h : w.ownsRow base e size v n xs) (hn : 0 < n) :
    ∃ g cap, v = .slice (some ⟨g, 0, none⟩) n cap ∧ base ≤ g ∧ g < w.heap.size ∧ n ≤ cap ∧ cap ≤ maxLen ∧ ∀ j u, xs[j]? = some u → w.cell? ⟨g, j, none⟩ = some u := by
  have hcell := @World.ownsRow.cells _ _ _ _ _ _ _ h
  rcases h.2 with ⟨rfl, h0⟩ | ⟨g, cap, cur, rfl, hb, hg, hnc, hcm, hcs, htake⟩
  · omega
  · refine ⟨g, cap, rfl, hb, lt_of hg, hnc, hcm, fun j u hj => ?_⟩
    have hc := @hcell g rfl j u hj
    have adds : (⟨g, 0, none⟩ : Addr).add j = ⟨g, j, none⟩ := by unfold Addr.add; split <;> simp_all
    rw [adds] at hc
    exact hc

theorem Tryd.info75 : (Tryd.prog.info? 75).map (fun i => (i.zero, i.size, i.bytes)) = some (some (.agg #[.string ⟨#[]⟩, .int .u8 0, .slice none 0 0]), 3, 48) := by kernel_rfl

set_option maxHeartbeats 4000000 in
/-- a row of one declaration -/
theorem rowDecl_one {w : World} {b g cap : Nat} {L : List Tk.Tok} {len nx op : Nat} (h : Rd w b g cap L len nx op) (hd : DeclInt L len nx) (hc : ((peekT L len (nx + 3)).text == [44]) = false) :
    Calls Tryd.prog 54 #[.pointer (some ⟨b, 0, none⟩), .int .i64 30, .func (.func 55) #[.pointer (some ⟨b, 0, none⟩)] #[]] w fun e w' =>
      ∃ ao c, e = .returned (.slice ao 1 c) ∧ Rd w' b g cap L len (nx + 3) op ∧ Aside [b] w.heap.size w w' := by
  obtain ⟨i0, hi, hz0, hz1, hz2⟩ := info_parts Tryd.info75
  go_enter Tryd.func54, Tryd.ntmps54
  go_wp2
  go_loopw [7] (fun v wr => v = .slice none 0 0 ∧ wr = w) (fun _ _ => 0)
  case atStart => exact ⟨rfl, rfl⟩
  case round =>
    obtain ⟨rfl, rfl⟩ := hrel
    go_wp2_with fail
    refine (allow_yes _ 0 30 (by decide) _).mono ?_
    rintro e w1 ⟨rfl, rfl⟩
    go_wp2_with fail
    refine (decl_int h hd).mono ?_
    rintro e w2 ⟨rfl, h2, a2⟩
    go_wp2_with (at_builtin; refine wpList_append_own _ rfl _ _ 36 rfl w2.heap.size 75 i0 (.agg #[.string ⟨#[]⟩, .int .u8 0, .slice none 0 0]) 3 48 Tryd.underlying36 hi hz0 hz1 hz2 rfl (by decide) _ _ _ rfl (World.ownsRow_nil _ _ _ _) ⟨w2.heap.size, 0, none⟩ 1 1 [.string (str (peekT L len nx).text), .int .u8 105, .slice none 0 0] rfl rfl (new3 _ _ _ _ _) (by intro u hu; simp at hu; rcases hu with rfl | rfl | rfl <;> rfl) (by unfold maxLen; omega) (by omega) (by simp) ?_; intro v3 w3 hown hgrow _)
    have b3 : Below w2.heap.size w2 w3 := ((Below.refl _ w2).alloc (Nat.le_refl _) _).grown hgrow (by simp) (fun k hk => by cases hk)
    obtain ⟨gg, cc, rfl, _, _, _, _, _⟩ := owns_pos hown (by omega)
    clear hgrow hown
    refine (take_no (h2.below b3) _ hc).mono ?_
    rintro e w4 ⟨rfl, b4⟩
    go_wp2
    go_ret
    exact ⟨_, _, rfl, (h2.below b3).below b4, (a2.trans (aside b3) a2.size).trans (aside b4) (Nat.le_trans a2.size b3.size)⟩

end Go.Proofs.YtmgaeapckfdbpaaDoor


/-
  DERIVED. Programs as plain data, and what it is that a value holds one in a world.
-/
namespace Go.Proofs.YtmgaeapckfdbpaaDoor
open Go.RowKit Go.IntWalk
set_option linter.unusedVariables false
set_option linter.unusedSimpArgs false
set_option maxRecDepth 100000

/-- a term of a size; a size is a list of them -/
abbrev Tm := Int × ByteArray
inductive Ex where
  | mk (op k n : Int) (name : ByteArray) (S : List (List Tm)) (L : List Ex)
structure De where
  name : ByteArray
  elem : Int
  n : List Tm
structure Eqn where
  place : Int
  names : List ByteArray
  node : ByteArray
  S : List (List Tm)
  E : List Ex
structure Nd where
  name : ByteArray
  place : Int
  sizes : List ByteArray
  inn : List De
  out : List De
  loc : List De
  eqs : List Eqn

def Ex.op : Ex → Int | .mk o _ _ _ _ _ => o
def Ex.k : Ex → Int | .mk _ k _ _ _ _ => k
def Ex.n : Ex → Int | .mk _ _ n _ _ _ => n
def Ex.name : Ex → ByteArray | .mk _ _ _ s _ _ => s
def Ex.S : Ex → List (List Tm) | .mk _ _ _ _ S _ => S
def Ex.L : Ex → List Ex | .mk _ _ _ _ _ L => L

/-- A slice of n things of k cells each: thing i has the cells C i. All of it lies in blocks that 'ok' lets by. -/
def Sl (ok : Nat → Prop) (k : Nat) (w : World) (v : Value) (n : Nat) (C : Nat → List Value) : Prop :=
  ∃ ao cap, v = .slice ao n cap ∧ n ≤ cap ∧ cap ≤ maxLen ∧
    (0 < n → ∃ b o, ao = some ⟨b, o, none⟩ ∧ ok b ∧ b < w.heap.size ∧ ∀ i, i < n → (C i).length = k ∧ ∀ j, j < k → w.cell? ⟨b, o + i * k + j, none⟩ = (C i)[j]?)

theorem Sl.keep {ok : Nat → Prop} {k : Nat} {w w' : World} {v : Value} {n : Nat} {C : Nat → List Value} (h : Sl ok k w v n C)
    (hs : w.heap.size ≤ w'.heap.size) (hk : ∀ i, ok i → i < w.heap.size → w'.heap[i]? = w.heap[i]?) : Sl ok k w' v n C := by
  obtain ⟨ao, cap, hv, h1, h2, h3⟩ := h
  refine ⟨ao, cap, hv, h1, h2, fun hn => ?_⟩
  obtain ⟨b, o, ha, hob, hb, hc⟩ := h3 hn
  refine ⟨b, o, ha, hob, Nat.lt_of_lt_of_le hb hs, fun i hi => ⟨(hc i hi).1, fun j hj => ?_⟩⟩
  rw [← (hc i hi).2 j hj]
  exact World.cell?_of_block (w := w) (hk b hob hb)

theorem Sl.wide {ok ok' : Nat → Prop} {k : Nat} {w : World} {v : Value} {n : Nat} {C : Nat → List Value} (h : Sl ok k w v n C) (hk : ∀ i, ok i → i < w.heap.size → ok' i) : Sl ok' k w v n C := by
  obtain ⟨ao, cap, hv, h1, h2, h3⟩ := h
  refine ⟨ao, cap, hv, h1, h2, fun hn => ?_⟩
  obtain ⟨b, o, ha, hob, hb, hc⟩ := h3 hn
  exact ⟨b, o, ha, hk b hob hb, hb, hc⟩

theorem Sl.nil {ok : Nat → Prop} {k : Nat} {w : World} {C : Nat → List Value} : Sl ok k w (.slice none 0 0) 0 C := ⟨none, 0, rfl, Nat.le_refl _, Nat.zero_le _, fun h => absurd h (Nat.lt_irrefl _)⟩

/-- .. of strings, of terms, of sizes -/
def HNames (ok : Nat → Prop) (w : World) (v : Value) (l : List ByteArray) : Prop := ∃ C, Sl ok 1 w v l.length C ∧ ∀ i (h : i < l.length), C i = [.string l[i]]
def HTerms (ok : Nat → Prop) (w : World) (v : Value) (l : List Tm) : Prop := ∃ C, Sl ok 2 w v l.length C ∧ ∀ i (h : i < l.length), C i = [.int .i64 (l[i]).1, .string (l[i]).2]
def HSizes (ok : Nat → Prop) (w : World) (v : Value) (l : List (List Tm)) : Prop := ∃ C, Sl ok 1 w v l.length C ∧ ∀ i (h : i < l.length), ∃ u, C i = [u] ∧ HTerms ok w u l[i]

/-- .. an expression's six cells -/
inductive HEx (ok : Nat → Prop) (w : World) : List Value → Ex → Prop
  | mk {op k n : Int} {name : ByteArray} {S : List (List Tm)} {L : List Ex} {vS vL : Value} (C : Nat → List Value)
      (hS : HSizes ok w vS S) (hL : Sl ok 6 w vL L.length C) (hE : ∀ i (h : i < L.length), HEx ok w (C i) L[i]) :
      HEx ok w [.int .i64 op, .int .i64 k, .int .i64 n, .string name, vS, vL] (.mk op k n name S L)

theorem HNames.keep {ok : Nat → Prop} {w w' : World} {v : Value} {l : List ByteArray} (h : HNames ok w v l) (hs : w.heap.size ≤ w'.heap.size) (hk : ∀ i, ok i → i < w.heap.size → w'.heap[i]? = w.heap[i]?) : HNames ok w' v l := by
  obtain ⟨C, h1, h2⟩ := h
  exact ⟨C, h1.keep hs hk, h2⟩
theorem HTerms.keep {ok : Nat → Prop} {w w' : World} {v : Value} {l : List Tm} (h : HTerms ok w v l) (hs : w.heap.size ≤ w'.heap.size) (hk : ∀ i, ok i → i < w.heap.size → w'.heap[i]? = w.heap[i]?) : HTerms ok w' v l := by
  obtain ⟨C, h1, h2⟩ := h
  exact ⟨C, h1.keep hs hk, h2⟩
theorem HSizes.keep {ok : Nat → Prop} {w w' : World} {v : Value} {l : List (List Tm)} (h : HSizes ok w v l) (hs : w.heap.size ≤ w'.heap.size) (hk : ∀ i, ok i → i < w.heap.size → w'.heap[i]? = w.heap[i]?) : HSizes ok w' v l := by
  obtain ⟨C, h1, h2⟩ := h
  refine ⟨C, h1.keep hs hk, fun i hi => ?_⟩
  obtain ⟨u, e, ht⟩ := h2 i hi
  exact ⟨u, e, ht.keep hs hk⟩
theorem HEx.keep {ok : Nat → Prop} {w w' : World} {cs : List Value} {e : Ex} (h : HEx ok w cs e) (hs : w.heap.size ≤ w'.heap.size) (hk : ∀ i, ok i → i < w.heap.size → w'.heap[i]? = w.heap[i]?) : HEx ok w' cs e := by
  induction h with
  | mk C hS hL hE ih => exact .mk C (hS.keep hs hk) (hL.keep hs hk) ih

theorem HTerms.wide {ok ok' : Nat → Prop} {w : World} {v : Value} {l : List Tm} (h : HTerms ok w v l) (hk : ∀ i, ok i → i < w.heap.size → ok' i) : HTerms ok' w v l := by
  obtain ⟨C, h1, h2⟩ := h
  exact ⟨C, h1.wide hk, h2⟩
theorem HSizes.wide {ok ok' : Nat → Prop} {w : World} {v : Value} {l : List (List Tm)} (h : HSizes ok w v l) (hk : ∀ i, ok i → i < w.heap.size → ok' i) : HSizes ok' w v l := by
  obtain ⟨C, h1, h2⟩ := h
  refine ⟨C, h1.wide hk, fun i hi => ?_⟩
  obtain ⟨u, e, ht⟩ := h2 i hi
  exact ⟨u, e, ht.wide hk⟩
theorem HEx.wide {ok ok' : Nat → Prop} {w : World} {cs : List Value} {e : Ex} (h : HEx ok w cs e) (hk : ∀ i, ok i → i < w.heap.size → ok' i) : HEx ok' w cs e := by
  induction h with
  | mk C hS hL hE ih => exact .mk C (hS.wide hk) (hL.wide hk) ih

theorem HEx.aside {S : List Nat} {w w' : World} {cs : List Value} {e : Ex} (h : HEx (· ∉ S) w cs e) (a : Aside S w.heap.size w w') : HEx (· ∉ S) w' cs e := h.keep a.size fun i hi hl => a.block i hl hi
theorem HEx.under {ok : Nat → Prop} {w w' : World} {cs : List Value} {e : Ex} (h : HEx ok w cs e) (a : Below w.heap.size w w') : HEx ok w' cs e := h.keep a.size fun i _ hl => a.block i hl

theorem HEx.past {ok : Nat → Prop} {S : List Nat} {w w' : World} {cs : List Value} {e : Ex} (h : HEx ok w cs e) (a : Aside S w.heap.size w w') (hS : ∀ i, ok i → i ∉ S) : HEx ok w' cs e := h.keep a.size fun i hi hl => a.block i hl (hS i hi)
theorem HEx.set {ok : Nat → Prop} {w : World} {cs : List Value} {e : Ex} (h : HEx ok w cs e) {p : Addr} (hp : ¬ ok p.block) (u : Value) : HEx ok (w.setCell p u) cs e :=
  h.keep (by simp [World.setCell]) fun i hi hl => Below.heap_setCell _ _ _ _ (fun e => hp (e ▸ hi))

/-- the parts of an expression -/
theorem HEx.leaf {ok : Nat → Prop} {w : World} (op k n : Int) (name : ByteArray) : HEx ok w [.int .i64 op, .int .i64 k, .int .i64 n, .string name, .slice none 0 0, .slice none 0 0] (.mk op k n name [] []) :=
  .mk (fun _ => []) ⟨fun _ => [], Sl.nil, fun i h => absurd h (Nat.not_lt_zero _)⟩ Sl.nil (fun i h => absurd h (Nat.not_lt_zero _))

/-- an expression's value -/
structure ExV where
  op : Int
  k : Int
  n : Int
  name : ByteArray
  aS : Option Addr
  nS : Nat
  cS : Nat
  aL : Option Addr
  nL : Nat
  cL : Nat
def ExV.cells (x : ExV) : List Value := [.int .i64 x.op, .int .i64 x.k, .int .i64 x.n, .string x.name, .slice x.aS x.nS x.cS, .slice x.aL x.nL x.cL]

theorem HEx.toV {ok : Nat → Prop} {w : World} {cs : List Value} {e : Ex} (h : HEx ok w cs e) : ∃ x : ExV, cs = x.cells ∧ HEx ok w x.cells e := by
  have h0 := h
  cases h with
  | @mk op k n name S L vS vL C hS hL hE =>
    obtain ⟨CS, ⟨aS, cS, rfl, _⟩, _⟩ := hS
    obtain ⟨aL, cL, rfl, _⟩ := hL
    exact ⟨⟨op, k, n, name, aS, S.length, cS, aL, L.length, cL⟩, rfl, h0⟩

/-- two expressions side by side in a new block -/
theorem HEx.pair {ok : Nat → Prop} {w : World} {x y : ExV} {a c : Ex} (k : Int) (hx : HEx ok w x.cells a) (hy : HEx ok w y.cells c) (t : TypeId) (hok : ok w.heap.size) :
    HEx ok (w.alloc (.cells #[.int .i64 x.op, .int .i64 x.k, .int .i64 x.n, .string x.name, .slice x.aS x.nS x.cS, .slice x.aL x.nL x.cL, .int .i64 y.op, .int .i64 y.k, .int .i64 y.n, .string y.name, .slice y.aS y.nS y.cS, .slice y.aL y.nL y.cL] t (0, 0)))
      [.int .i64 5, .int .i64 k, .int .i64 0, .string ⟨#[]⟩, .slice none 0 0, .slice (some ⟨w.heap.size, 0, none⟩) 2 2] (.mk 5 k 0 ⟨#[]⟩ [] [a, c]) := by
  have hn := heap_new w (.cells #[.int .i64 x.op, .int .i64 x.k, .int .i64 x.n, .string x.name, .slice x.aS x.nS x.cS, .slice x.aL x.nL x.cL, .int .i64 y.op, .int .i64 y.k, .int .i64 y.n, .string y.name, .slice y.aS y.nS y.cS, .slice y.aL y.nL y.cL] t (0, 0))
  have hb := ((Below.refl w.heap.size w).alloc (Nat.le_refl _) (.cells #[.int .i64 x.op, .int .i64 x.k, .int .i64 x.n, .string x.name, .slice x.aS x.nS x.cS, .slice x.aL x.nL x.cL, .int .i64 y.op, .int .i64 y.k, .int .i64 y.n, .string y.name, .slice y.aS y.nS y.cS, .slice y.aL y.nL y.cL] t (0, 0)))
  refine .mk (fun i => if i = 0 then x.cells else y.cells) ⟨fun _ => [], Sl.nil, fun i h => absurd h (Nat.not_lt_zero _)⟩ ⟨_, 2, rfl, Nat.le_refl _, by decide, fun _ => ⟨_, 0, rfl, hok, lt_of hn, fun i hi => ?_⟩⟩ (fun i hi => ?_)
  · match i, hi with
    | 0, _ => exact ⟨rfl, fun j hj => by rw [cell_of hn]; match j, hj with | 0, _ => rfl | 1, _ => rfl | 2, _ => rfl | 3, _ => rfl | 4, _ => rfl | 5, _ => rfl⟩
    | 1, _ => exact ⟨rfl, fun j hj => by rw [cell_of hn]; match j, hj with | 0, _ => rfl | 1, _ => rfl | 2, _ => rfl | 3, _ => rfl | 4, _ => rfl | 5, _ => rfl⟩
  · match i, hi with
    | 0, _ => exact hx.under hb
    | 1, _ => exact hy.under hb

end Go.Proofs.YtmgaeapckfdbpaaDoor
