/-
  DERIVED. THE WALKS of the reader's allow and decl, and laws on worlds of which a block alone has turned.
-/
import Derived.Test.YtplofgkofkjhdaaGreatDoorRd
namespace Go.Proofs.YtplofgkofkjhdaaGreatDoor
open Go.RowKit Go.IntWalk
set_option linter.unusedVariables false
set_option linter.unusedSimpArgs false
set_option maxRecDepth 100000

theorem Aside.alloc {S : List Nat} {B : Nat} {w w' : World} (h : Aside S B w w') (hB : B ≤ w'.heap.size) (o : Obj) : Aside S B w (w'.alloc o) :=
  h.trans (aside ((Below.refl B w').alloc hB o)) (Nat.le_refl _)
theorem Aside.set {S : List Nat} {B : Nat} {w w' : World} (h : Aside S B w w') {p : Addr} (hp : B ≤ p.block) (u : Value) : Aside S B w (w'.setCell p u) :=
  h.trans (aside ((Below.refl B w').setCell hp u)) (Nat.le_refl _)
theorem Aside.drew {S : List Nat} {B : Nat} {w w' : World} (h : Aside S B w w') : Aside S B w w'.drew := ⟨h.os, h.tape, h.output, h.size, h.block⟩
theorem Aside.mono {S : List Nat} {B B' : Nat} {w w' : World} (h : Aside S B w w') (hB : B' ≤ B) : Aside S B' w w' := ⟨h.os, h.tape, h.output, h.size, fun k hk => h.block k (Nat.lt_of_lt_of_le hk hB)⟩

section
variable {w : World} {b g cap : Nat} {L : List Tk.Tok} {len nx op : Nat}
theorem Rd.alloc (h : Rd w b g cap L len nx op) (o : Obj) : Rd (w.alloc o) b g cap L len nx op := h.below ((Below.refl _ w).alloc (Nat.le_refl _) _)
theorem Rd.drew (h : Rd w b g cap L len nx op) : Rd w.drew b g cap L len nx op := h.below (Below.refl _ w).drew
theorem Rd.set (h : Rd w b g cap L len nx op) {p : Addr} (hb : p.block ≠ b) (hg : p.block ≠ g) (u : Value) : Rd (w.setCell p u) b g cap L len nx op :=
  ⟨(Below.heap_setCell _ _ _ _ (fun e => hb e.symm)).trans h.here, h.toks.keep (Below.heap_setCell _ _ _ _ (fun e => hg e.symm)), h.apart, by simpa [World.setCell] using h.gb, h.le, h.lc, h.cm⟩
theorem Rd.bb (h : Rd w b g cap L len nx op) : b < w.heap.size := h.cells.2.2.2.2
end

theorem cell_of {w : World} {k : Nat} {cs : Array Value} {t : TypeId} (h : w.heap[k]? = some (.cells cs t (0, 0))) (o : Nat) : w.cell? ⟨k, o, none⟩ = cs[o]? := by simp [World.cell?, h]
theorem free_of {w : World} {k : Nat} {cs : Array Value} {t : TypeId} (h : w.heap[k]? = some (.cells cs t (0, 0))) (o : Nat) : w.frozen? ⟨k, o, none⟩ = false := by simp [World.frozen?, h]
theorem lt_of {w : World} {k : Nat} {o : Obj} (h : w.heap[k]? = some o) : k < w.heap.size := (Array.getElem?_eq_some_iff.1 h).1

theorem Aside.keep {S : List Nat} {B : Nat} {w w' : World} (a : Aside S B w w') {k : Nat} {x : Obj} (hx : w.heap[k]? = some x) (hk : k < B) (hs : k ∉ S) : w'.heap[k]? = some x := (a.block k hk hs).trans hx
theorem keep_alloc {w : World} {k : Nat} {x : Obj} (hx : w.heap[k]? = some x) (o : Obj) : (w.alloc o).heap[k]? = some x := (Below.heap_alloc _ _ _ (lt_of hx)).trans hx
theorem keep_set {w : World} {k : Nat} {x : Obj} (hx : w.heap[k]? = some x) {p : Addr} (hp : p.block ≠ k) (u : Value) : (w.setCell p u).heap[k]? = some x := (Below.heap_setCell _ _ _ _ (fun e => hp e.symm)).trans hx
theorem set_in {w : World} {k : Nat} {cs : Array Value} {t : TypeId} (h : w.heap[k]? = some (.cells cs t (0, 0))) (o : Nat) (u : Value) : (w.setCell ⟨k, o, none⟩ u).heap[k]? = some (.cells (cs.setIfInBounds o u) t (0, 0)) := by
  simp [World.setCell, Array.getElem?_modify, h]

theorem tokF0 (t : Tk.Tok) (x : ByteArray) (w : World) : (Instr.field 71 (.agg #[.int .i64 t.kind, .int .i64 (t.place : Int), .string x, .int .i64 t.n]) 0).run Tryz.prog w = .ok (.int .i64 t.kind) w := by kernel_rfl
theorem tokF1 (t : Tk.Tok) (x : ByteArray) (w : World) : (Instr.field 71 (.agg #[.int .i64 t.kind, .int .i64 (t.place : Int), .string x, .int .i64 t.n]) 1).run Tryz.prog w = .ok (.int .i64 (t.place : Int)) w := by kernel_rfl

set_option maxHeartbeats 1000000 in
theorem allow_yes (v : Value) (x y : Int) (hxy : x < y) (w : World) :
    Calls Tryz.prog 65 #[v, .int .i64 x, .int .i64 y] w fun e w' => e = .returned (.tuple #[]) ∧ w' = w := by
  have hd : decide (y ≤ x) = false := by simp; omega
  go_enter Tryz.func65, Tryz.ntmps65
  go_wp2
  go_end0
  exact ⟨rfl, rfl⟩

/-- a declaration 'NAME : int', and no size behind it -/
structure DeclInt (L : List Tk.Tok) (len nx : Nat) : Prop where
  lt : nx + 2 < L.length
  name : (peekT L len nx).kind = 2
  colon : ((peekT L len (nx + 1)).text == [58]) = true
  int : ((peekT L len (nx + 2)).text == [105, 110, 116]) = true
  power : ((peekT L len (nx + 3)).text == [94]) = false

set_option maxHeartbeats 4000000 in
theorem decl_int {w : World} {b g cap : Nat} {L : List Tk.Tok} {len nx op : Nat} (h : Rd w b g cap L len nx op) (hd : DeclInt L len nx) :
    Calls Tryz.prog 83 #[.pointer (some ⟨b, 0, none⟩)] w fun e w' => e = .returned (.agg #[.string (str (peekT L len nx).text), .int .u8 105, .slice none 0 0]) ∧ Rd w' b g cap L len (nx + 3) op ∧ Aside [b] w.heap.size w w' := by
  have hlt := hd.lt
  go_enter Tryz.func83, Tryz.ntmps83
  go_wp2_with fail
  refine (name_yes (h.alloc _) hd.name (by omega)).mono ?_
  rintro e w1 ⟨rfl, h1, a1⟩
  go_wp2_with fail
  refine (need_yes (h1.alloc _) _ hd.colon (by omega)).mono ?_
  rintro e w2 ⟨rfl, h2, a2⟩
  go_wp2_with fail
  refine (take_yes h2 _ hd.int (by omega)).mono ?_
  rintro e w3 ⟨rfl, h3, a3⟩
  have hb := h.bb
  have z1 : w.heap.size + 1 ≤ w1.heap.size := by simpa using a1.size
  have z2 : w1.heap.size + 1 ≤ w2.heap.size := by simpa using a2.size
  have z3 := a3.size
  have hg := h.gb
  have hA := a3.keep (a2.keep (keep_alloc (a1.keep (heap_new w _) (by simp) (by simp; omega)) _) (by simp; omega) (by simp; omega)) (by omega) (by simp; omega)
  have hB := a3.keep (a2.keep (heap_new w1 _) (by simp) (by simp; omega)) (by omega) (by simp; omega)
  have cB1 := cell_of hB 1
  have fB1 := free_of hB 1
  go_wp2_with fail
  refine (take_no (h3.set (by simp; omega) (by simp; omega) _) _ hd.power).mono ?_
  rintro e w4 ⟨rfl, b4⟩
  have hA4 := (aside b4 (S := [])).keep (keep_set hA (by simp; omega) _) (by simp [World.setCell]; omega) (by simp)
  have hB4 := (aside b4 (S := [])).keep (set_in hB 1 _) (by simp [World.setCell]; omega) (by simp)
  have z4 : w3.heap.size ≤ w4.heap.size := by simpa [World.setCell] using b4.size
  have cb0 := cell_of hB4 0
  have cb1 := cell_of hB4 1
  have cb2 := cell_of hB4 2
  have ca0 := cell_of hA4 0
  have ca1 := cell_of hA4 1
  have ca2 := cell_of hA4 2
  have fa0 := free_of hA4 0
  have fa1 := free_of hA4 1
  have fa2 := free_of hA4 2
  simp at cb0 cb1 cb2 ca0 ca1 ca2
  go_wp2
  have h4 := (h3.set (p := ⟨w1.heap.size, 1, none⟩) (by simp; omega) (by simp; omega) _).below b4
  have A1 := ((Aside.refl (S := [b]) (B := w.heap.size) w).alloc (Nat.le_refl _) _).trans a1 (by simp)
  have A3 := ((A1.alloc (by omega) _).trans a2 (by simp; omega)).trans a3 (by omega)
  have A4 := (A3.set (p := ⟨w1.heap.size, 1, none⟩) (by simp; omega) _).trans (aside b4) (by simp [World.setCell]; omega)
  refine bodyPost_ret (v := .agg #[.string (str (peekT L len nx).text), .int .u8 105, .slice none 0 0]) (by simp [results, Tryz.results83, go_sem, ca0, ca1, ca2]) rfl ⟨rfl, ?_, ?_⟩
  · exact ((h4.set (by simp; omega) (by simp; omega) _).set (by simp; omega) (by simp; omega) _).set (by simp; omega) (by simp; omega) _
  · exact ((A4.set (by simp) _).set (by simp) _).set (by simp) _

theorem makes (fn : Fn) (first cap : Array Value) (w : World) : (Instr.makeFunc fn first cap).run Tryz.prog w = .ok (.func fn first cap) w := rfl

theorem new3 (w : World) (a b c : Value) (t : TypeId) : ∀ j u, [a, b, c][j]? = some u → (w.alloc (.cells #[a, b, c] t)).cell? ((⟨w.heap.size, 0, none⟩ : Addr).add j) = some u := by
  intro j u hj
  match j, hj with
  | 0, hj => simp at hj; subst hj; simp [Addr.add]
  | 1, hj => simp at hj; subst hj; simp [Addr.add]
  | 2, hj => simp at hj; subst hj; simp [Addr.add]

theorem owns_pos {w : World} {base : Nat} {e : TypeId} {size : Nat} {v : Value} {n : Nat} {xs : List Value} (h : w.ownsRow base e size v n xs) (hn : 0 < n) :
    ∃ g cap, v = .slice (some ⟨g, 0, none⟩) n cap ∧ base ≤ g ∧ g < w.heap.size ∧ n ≤ cap ∧ cap ≤ maxLen ∧ ∀ j u, xs[j]? = some u → w.cell? ⟨g, j, none⟩ = some u := by
  have hcell := @World.ownsRow.cells _ _ _ _ _ _ _ h
  rcases h.2 with ⟨rfl, h0⟩ | ⟨g, cap, cur, rfl, hb, hg, hnc, hcm, hcs, htake⟩
  · omega
  · refine ⟨g, cap, rfl, hb, lt_of hg, hnc, hcm, fun j u hj => ?_⟩
    have hc := @hcell g rfl j u hj
    have adds : (⟨g, 0, none⟩ : Addr).add j = ⟨g, j, none⟩ := by unfold Addr.add; split <;> simp_all
    rw [adds] at hc
    exact hc

theorem Tryz.info94 : (Tryz.prog.info? 94).map (fun i => (i.zero, i.size, i.bytes)) = some (some (.agg #[.string ⟨#[]⟩, .int .u8 0, .slice none 0 0]), 3, 48) := by kernel_rfl

set_option maxHeartbeats 4000000 in
/-- a row of one declaration -/
theorem rowDecl_one {w : World} {b g cap : Nat} {L : List Tk.Tok} {len nx op : Nat} (h : Rd w b g cap L len nx op) (hd : DeclInt L len nx) (hc : ((peekT L len (nx + 3)).text == [44]) = false) :
    Calls Tryz.prog 82 #[.pointer (some ⟨b, 0, none⟩), .int .i64 30, .func (.func 83) #[.pointer (some ⟨b, 0, none⟩)] #[]] w fun e w' =>
      ∃ ao c, e = .returned (.slice ao 1 c) ∧ Rd w' b g cap L len (nx + 3) op ∧ Aside [b] w.heap.size w w' := by
  obtain ⟨i0, hi, hz0, hz1, hz2⟩ := info_parts Tryz.info94
  go_enter Tryz.func82, Tryz.ntmps82
  go_wp2
  go_loopw [7] (fun v wr => v = .slice none 0 0 ∧ wr = w) (fun _ _ => 0)
  case atStart => exact ⟨rfl, rfl⟩
  case round =>
    obtain ⟨rfl, rfl⟩ := hrel
    go_wp2_with fail
    refine (allow_yes _ 0 30 (by decide) _).mono ?_
    rintro e w1 ⟨rfl, rfl⟩
    go_wp2_with fail
    refine (decl_int h hd).mono ?_
    rintro e w2 ⟨rfl, h2, a2⟩
    go_wp2_with (at_builtin; refine wpList_append_own _ rfl _ _ 36 rfl w2.heap.size 94 i0 (.agg #[.string ⟨#[]⟩, .int .u8 0, .slice none 0 0]) 3 48 Tryz.underlying36 hi hz0 hz1 hz2 rfl (by decide) _ _ _ rfl (World.ownsRow_nil _ _ _ _) ⟨w2.heap.size, 0, none⟩ 1 1 [.string (str (peekT L len nx).text), .int .u8 105, .slice none 0 0] rfl rfl (new3 _ _ _ _ _) (by intro u hu; simp at hu; rcases hu with rfl | rfl | rfl <;> rfl) (by unfold maxLen; omega) (by omega) (by simp) ?_; intro v3 w3 hown hgrow _)
    have b3 : Below w2.heap.size w2 w3 := ((Below.refl _ w2).alloc (Nat.le_refl _) _).grown hgrow (by simp) (fun k hk => by cases hk)
    obtain ⟨gg, cc, rfl, _, _, _, _, _⟩ := owns_pos hown (by omega)
    clear hgrow hown
    refine (take_no (h2.below b3) _ hc).mono ?_
    rintro e w4 ⟨rfl, b4⟩
    go_wp2
    go_ret
    exact ⟨_, _, rfl, (h2.below b3).below b4, (a2.trans (aside b3) a2.size).trans (aside b4) (Nat.le_trans a2.size b3.size)⟩

end Go.Proofs.YtplofgkofkjhdaaGreatDoor
