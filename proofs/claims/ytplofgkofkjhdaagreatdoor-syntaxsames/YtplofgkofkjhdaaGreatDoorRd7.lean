/-
  DERIVED. THE WALKS of a row of one name and of an equation, where all goes well.
-/
import Derived.Test.YtplofgkofkjhdaaGreatDoorRd6
namespace Go.Proofs.YtplofgkofkjhdaaGreatDoor
open Go.RowKit Go.IntWalk
set_option linter.unusedVariables false
set_option linter.unusedSimpArgs false
set_option maxRecDepth 100000

theorem tokG0 (a p n : Int) (x : ByteArray) (w : World) : (Instr.field 71 (.agg #[.int .i64 a, .int .i64 p, .string x, .int .i64 n]) 0).run Tryz.prog w = .ok (.int .i64 a) w := by kernel_rfl
theorem tokG1 (a p n : Int) (x : ByteArray) (w : World) : (Instr.field 71 (.agg #[.int .i64 a, .int .i64 p, .string x, .int .i64 n]) 1).run Tryz.prog w = .ok (.int .i64 p) w := by kernel_rfl

theorem new1 (w : World) (a : Value) (t : TypeId) : ∀ j u, [a][j]? = some u → (w.alloc (.cells #[a] t)).cell? ((⟨w.heap.size, 0, none⟩ : Addr).add j) = some u := by
  intro j u hj
  match j, hj with
  | 0, hj => simp at hj; subst hj; simp [Addr.add]

theorem Tryz.info9 : (Tryz.prog.info? 9).map (fun i => (i.zero, i.size, i.bytes)) = some (some (.string ⟨#[]⟩), 1, 16) := by kernel_rfl

set_option maxHeartbeats 4000000 in
theorem rowName_one {w : World} {b g cap : Nat} {L : List Tk.Tok} {len nx op : Nat} (h : Rd w b g cap L len nx op) (hk : (peekT L len nx).kind = 2) (hn : nx < L.length) (hc : ((peekT L len (nx + 1)).text == [44]) = false) (mx : Int) (hmx : 0 < mx) :
    Calls Tryz.prog 81 #[.pointer (some ⟨b, 0, none⟩), .int .i64 mx, .func (.func 79) #[.pointer (some ⟨b, 0, none⟩)] #[]] w fun e w' =>
      ∃ ao c, e = .returned (.slice ao 1 c) ∧ Rd w' b g cap L len (nx + 1) op ∧ Aside [b] w.heap.size w w' := by
  obtain ⟨i0, hi, hz0, hz1, hz2⟩ := info_parts Tryz.info9
  go_enter Tryz.func81, Tryz.ntmps81
  go_wp2
  go_loopg [7] 0 (fun q v wr => v = .slice none 0 0 ∧ wr = w)
  case atStart => exact ⟨rfl, rfl⟩
  case round =>
    obtain ⟨rfl, rfl⟩ := hrel
    go_wp2_with fail
    refine (allow_yes _ 0 mx (by omega) _).mono ?_
    rintro e w1 ⟨rfl, rfl⟩
    go_wp2_with fail
    refine (name_yes h hk hn).mono ?_
    rintro e w2 ⟨rfl, h2, a2⟩
    go_wp2_with (at_builtin; refine wpList_append_own _ rfl _ _ 35 rfl w2.heap.size 9 i0 (.string ⟨#[]⟩) 1 16 Tryz.underlying35 hi hz0 hz1 hz2 rfl (by decide) _ _ _ rfl (World.ownsRow_nil _ _ _ _) ⟨w2.heap.size, 0, none⟩ 1 1 [.string (str (peekT L len nx).text)] rfl rfl (new1 _ _ _) (by intro u hu; simp at hu; rcases hu with rfl; rfl) (by unfold maxLen; omega) (by omega) (by simp) ?_; intro v3 w3 hown hgrow _)
    have b3 : Below w2.heap.size w2 w3 := ((Below.refl _ w2).alloc (Nat.le_refl _) _).grown hgrow (by simp) (fun k hk => by cases hk)
    obtain ⟨gg, cc, rfl, _, _, _, _, _⟩ := owns_pos hown (by omega)
    clear hgrow hown
    refine (take_no (h2.below b3) _ hc).mono ?_
    rintro e w4 ⟨rfl, b4⟩
    go_wp2
    go_ret
    exact ⟨_, _, rfl, (h2.below b3).below b4, (a2.trans (aside b3) a2.size).trans (aside b4) (Nat.le_trans a2.size b3.size)⟩

set_option maxHeartbeats 8000000 in
theorem equation_one {w : World} {b g cap : Nat} {L : List Tk.Tok} {len nx op n1 : Nat} {e : Ex} (h : Rd w b g cap L len nx op) (hk : (peekT L len nx).kind = 2) (hn : nx + 1 < L.length) (hc : ((peekT L len (nx + 1)).text == [44]) = false)
    (hq : ((peekT L len (nx + 1)).text == [61]) = true) (hcall : ((peekT L len (nx + 2)).text == [99, 97, 108, 108]) = false) (hG : Gives 102 b g cap L len op (nx + 2) n1 e) :
    Calls Tryz.prog 95 #[.pointer (some ⟨b, 0, none⟩)] w fun r w' => ∃ (p : Int) (ao : Option Addr) (c bk : Nat) (y : ExV),
      r = .returned (.agg #[.int .i64 p, .slice ao 1 c, .string ⟨#[]⟩, .slice none 0 0, .slice (some ⟨bk, 0, none⟩) 1 1]) ∧ w.heap.size ≤ bk ∧
      w'.heap[bk]? = some (.cells #[.int .i64 y.op, .int .i64 y.k, .int .i64 y.n, .string y.name, .slice y.aS y.nS y.cS, .slice y.aL y.nL y.cL] 45 (0, 0)) ∧ HEx (fun i => w.heap.size ≤ i) w' y.cells e ∧ Rd w' b g cap L len n1 op ∧ Aside [b] w.heap.size w w' := by
  have hb := h.bb
  have hg := h.gb
  have hf := tokG1
  have hmf := makes
  go_enter Tryz.func95, Tryz.ntmps95
  go_wp2_with fail
  refine (peek_any (h.alloc _)).mono ?_
  unfold tokV
  rintro r w1 ⟨rfl, b1⟩
  have h1 := (h.alloc _).below b1
  have z1 : w.heap.size + 1 ≤ w1.heap.size := by simpa using b1.size
  have hA1 := (aside b1 (S := [])).keep (heap_new w _) (by simp) (by simp)
  have A1 := ((Aside.refl (S := [b]) (B := w.heap.size) w).alloc (Nat.le_refl _) _).trans (aside b1) (by simp)
  clear b1
  go_wp2_with fail
  refine (rowName_one (h1.alloc _) hk (by omega) hc 30 (by decide)).mono ?_
  rintro r w2 ⟨ao, c, rfl, h2, a2⟩
  have z2 : w1.heap.size + 1 ≤ w2.heap.size := by simpa using a2.size
  have hA2 := a2.keep (keep_alloc hA1 _) (by simp; omega) (by simp; omega)
  have hB2 := a2.keep (heap_new w1 _) (by simp) (by simp; omega)
  have A2 := (A1.alloc (by omega) _).trans a2 (by simp; omega)
  have cB1 := cell_of hB2 1
  have fB1 := free_of hB2 1
  simp at cB1
  clear a2 hA1 A1
  go_wp2_with fail
  refine (need_yes (h2.set (by simp; omega) (by simp; omega) _) ⟨#[61]⟩ hq (by omega)).mono ?_
  rintro r w3 ⟨rfl, h3, a3⟩
  have z3 : w2.heap.size ≤ w3.heap.size := by simpa [World.setCell] using a3.size
  have hA3 := a3.keep (keep_set hA2 (by simp; omega) _) (by simp [World.setCell]; omega) (by simp; omega)
  have hB3 := a3.keep (set_in hB2 1 _) (by simp [World.setCell]; omega) (by simp; omega)
  have A3 := (A2.set (p := ⟨w1.heap.size, 1, none⟩) (by simp; omega) _).trans a3 (by simp [World.setCell]; omega)
  simp at hB3
  have cB31 := cell_of hB3 1
  simp at cB31
  clear a3 hA2 A2 hB2 cB1 fB1
  go_wp2_with fail
  refine (sees_any h3 ⟨#[99, 97, 108, 108]⟩).mono ?_
  rintro r w4 ⟨rfl, b4⟩
  rw [hcall]
  have h4 := h3.below b4
  have z4 := b4.size
  have hA4 := (aside b4 (S := [])).keep hA3 (lt_of hA3) (by simp)
  have hB4 := (aside b4 (S := [])).keep hB3 (lt_of hB3) (by simp)
  have A4 := A3.trans (aside b4) (by omega)
  clear b4 hA3 hB3 A3 cB31
  go_wp2_with fail
  refine (hG.2 _ h4).mono ?_
  rintro r w5 ⟨y, rfl, he5, h5, a5⟩
  have z5 := a5.size
  have hA5 := a5.keep hA4 (lt_of hA4) (by simp; omega)
  have hB5 := a5.keep hB4 (lt_of hB4) (by simp; omega)
  have A5 := A4.trans a5 (by omega)
  have he5' := (he5.wide (ok' := fun i => w1.heap.size < i) (fun i hi hl => by omega)).under ((Below.refl _ w5).alloc (Nat.le_refl _) (.cells #[.int .i64 y.op, .int .i64 y.k, .int .i64 y.n, .string y.name, .slice y.aS y.nS y.cS, .slice y.aL y.nL y.cL] 45 (0, 0)))
  clear a5 hA4 hB4 A4 he5
  obtain ⟨o5, ho5⟩ : ∃ o5 : Obj, o5 = .cells #[.int .i64 y.op, .int .i64 y.k, .int .i64 y.n, .string y.name, .slice y.aS y.nS y.cS, .slice y.aL y.nL y.cL] 45 (0, 0) := ⟨_, rfl⟩
  have hA6 := keep_alloc hA5 (.cells #[.int .i64 y.op, .int .i64 y.k, .int .i64 y.n, .string y.name, .slice y.aS y.nS y.cS, .slice y.aL y.nL y.cL] 45 (0, 0))
  have hB6 := keep_alloc hB5 (.cells #[.int .i64 y.op, .int .i64 y.k, .int .i64 y.n, .string y.name, .slice y.aS y.nS y.cS, .slice y.aL y.nL y.cL] 45 (0, 0))
  have cB4 := cell_of hB6 4
  have fB := fun o => free_of hB6 o
  have fA := fun o => free_of hA6 o
  have cb0 := cell_of hB6 0
  have cb1 := cell_of hB6 1
  have cb2 := cell_of hB6 2
  have cb3 := cell_of hB6 3
  have cb4 := cell_of hB6 4
  have ca0 := cell_of hA6 0
  have ca1 := cell_of hA6 1
  have ca2 := cell_of hA6 2
  have ca3 := cell_of hA6 3
  have ca4 := cell_of hA6 4
  clear ho5 o5
  simp at cB4 cb0 cb1 cb2 cb3 cb4 ca0 ca1 ca2 ca3 ca4
  go_wp2
  have hE := keep_set (keep_set (keep_set (keep_set (keep_set (keep_set (heap_new w5 (.cells #[.int .i64 y.op, .int .i64 y.k, .int .i64 y.n, .string y.name, .slice y.aS y.nS y.cS, .slice y.aL y.nL y.cL] 45 (0, 0))) (p := ⟨w1.heap.size, 4, none⟩) (by simp; omega) (.slice (some ⟨w5.heap.size, 0, none⟩) 1 1)) (p := ⟨w.heap.size, 0, none⟩) (by simp; omega) (.int .i64 ((peekT L len nx).place : Int))) (p := ⟨w.heap.size, 1, none⟩) (by simp; omega) (.slice ao 1 c)) (p := ⟨w.heap.size, 2, none⟩) (by simp; omega) (.string ⟨#[]⟩)) (p := ⟨w.heap.size, 3, none⟩) (by simp; omega) (.slice none 0 0)) (p := ⟨w.heap.size, 4, none⟩) (by simp; omega) (.slice (some ⟨w5.heap.size, 0, none⟩) 1 1)
  refine bodyPost_ret (v := .agg #[.int .i64 ((peekT L len nx).place : Int), .slice ao 1 c, .string ⟨#[]⟩, .slice none 0 0, .slice (some ⟨w5.heap.size, 0, none⟩) 1 1]) (by simp [results, Tryz.results95, go_sem, ca0, ca1, ca2, ca3, ca4]) rfl ⟨_, ao, c, w5.heap.size, y, rfl, by omega, hE, ?_, ?_, ?_⟩
  · exact ((((((he5'.set (by simp) _).set (by simp; omega) _).set (by simp; omega) _).set (by simp; omega) _).set (by simp; omega) _).set (by simp; omega) _).wide (fun i hi _ => by omega)
  · exact ((((((h5.alloc _).set (by simp; omega) (by simp; omega) _).set (by simp; omega) (by simp; omega) _).set (by simp; omega) (by simp; omega) _).set (by simp; omega) (by simp; omega) _).set (by simp; omega) (by simp; omega) _).set (by simp; omega) (by simp; omega) _
  · exact ((((((A5.alloc (by omega) _).set (by simp; omega) _).set (by simp) _).set (by simp) _).set (by simp) _).set (by simp) _).set (by simp) _

end Go.Proofs.YtplofgkofkjhdaaGreatDoor
