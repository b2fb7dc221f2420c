/-
  DERIVED. THE WALK of a node's line that is an equation, where all goes well.
-/
import Derived.Test.YtplofgkofkjhdaaGreatDoorRd7
import Derived.Deep.RegionLawGrows
namespace Go.Proofs.YtplofgkofkjhdaaGreatDoor
open Go.RowKit Go.IntWalk
set_option linter.unusedVariables false
set_option linter.unusedSimpArgs false
set_option maxRecDepth 100000

/-- a call of one argument, by its contract, as one step of a region that draws -/
theorem step_call {P : Program} {ops : Array Oper} {o : Oper} {a : Act} {w : World} {K : Act → World → Prop} {Q : Exit → Act → World → Prop} {E : Prop}
    (hg : o.guard = none) (f : FuncId) (s : Operand) (t : TypeId) (hop : o.op = Op.call { callee := Callee.value (Operand.func f), args := #[s], argTypes := #[t] }) (v : Value) (hs : a.eval s = v)
    (hent : (callFunc f #[v]).run P w = .ok (.enter f #[v]) w) {post : Ending → World → Prop} (hc : Calls P f #[v] w post) (hK : ∀ e w', post e w' → ∃ u, e = .returned u ∧ K (a.put o.dst u) w') :
    if Region.wanted o (yielded ops a.tmps) = true then Oper.wp P o a w K Q else E := by
  have hw : Region.wanted o (yielded ops a.tmps) = true := by simp [Region.wanted, hg]
  rw [if_pos hw]
  have hrun : (execOp a.eval o).run P w = .ok (.enter f #[v]) w := by
    have hev : a.eval (.func f) = .func (.func f) #[] #[] := rfl
    subst hs
    simp [execOp, hop, resolve, invoke, hev, go_sem]
    cases s <;> simpa [go_sem] using hent
  unfold Oper.wp
  rw [hrun]
  refine hc.mono ?_
  intro e w' hp
  obtain ⟨u, rfl, hk⟩ := hK e w' hp
  exact hk

theorem HEx.kk {ok : Nat → Prop} {w : World} {x : ExV} {e : Ex} (h : HEx ok w x.cells e) : x.k = e.k := by
  cases h with
  | mk C hS hL hE => rfl

theorem enter95 (args : Array Value) (w : World) : (callFunc 95 args).run Tryz.prog w = .ok (.enter 95 args) w := by kernel_rfl
theorem Tryz.info43 : (Tryz.prog.info? 43).map (fun i => (i.zero, i.size, i.bytes)) = some (some (.agg #[.int .i64 0, .slice none 0 0, .string ⟨#[]⟩, .slice none 0 0, .slice none 0 0]), 5, 96) := by kernel_rfl

theorem new5 (w : World) (a b c d e : Value) (t : TypeId) : ∀ j u, [a, b, c, d, e][j]? = some u → (w.alloc (.cells #[a, b, c, d, e] t)).cell? ((⟨w.heap.size, 0, none⟩ : Addr).add j) = some u := by
  intro j u hj
  match j, hj with
  | 0, hj => simp at hj; subst hj; simp [Addr.add]
  | 1, hj => simp at hj; subst hj; simp [Addr.add]
  | 2, hj => simp at hj; subst hj; simp [Addr.add]
  | 3, hj => simp at hj; subst hj; simp [Addr.add]
  | 4, hj => simp at hj; subst hj; simp [Addr.add]

set_option maxHeartbeats 8000000 in
theorem line_eq {w : World} {b g cap nb : Nat} {L : List Tk.Tok} {len nx op n1 : Nat} {e : Ex} {v0 v1 v2 v3 v4 v5 : Value} (h : Rd w b g cap L len nx op)
    (hnode : w.heap[nb]? = some (.cells #[v0, v1, v2, v3, v4, v5, .slice none 0 0] 39 (0, 0))) (hnb : nb ≠ b) (hng : nb ≠ g)
    (hvar : ((peekT L len nx).text == [118, 97, 114]) = false) (hk : (peekT L len nx).kind = 2) (hn : nx + 1 < L.length) (hc : ((peekT L len (nx + 1)).text == [44]) = false)
    (hq : ((peekT L len (nx + 1)).text == [61]) = true) (hcall : ((peekT L len (nx + 2)).text == [99, 97, 108, 108]) = false) (hG : Gives 102 b g cap L len op (nx + 2) n1 e)
    (hs : ((peekT L len n1).text == [59]) = true) (hn1 : n1 < L.length) :
    Calls Tryz.prog 84 #[.pointer (some ⟨b, 0, none⟩), .pointer (some ⟨nb, 0, none⟩)] w fun r w' => ∃ (q cq bk : Nat) (y : ExV),
      r = .returned (.tuple #[]) ∧ w'.heap[nb]? = some (.cells #[v0, v1, v2, v3, v4, v5, .slice (some ⟨q, 0, none⟩) 1 cq] 39 (0, 0)) ∧ 1 ≤ cq ∧ w.heap.size ≤ q ∧ q < w'.heap.size ∧ w.heap.size ≤ bk ∧
      w'.cell? ⟨q, 4, none⟩ = some (.slice (some ⟨bk, 0, none⟩) 1 1) ∧
      w'.heap[bk]? = some (.cells #[.int .i64 y.op, .int .i64 y.k, .int .i64 y.n, .string y.name, .slice y.aS y.nS y.cS, .slice y.aL y.nL y.cL] 45 (0, 0)) ∧ y.k = e.k ∧ Rd w' b g cap L len (n1 + 1) op ∧ Aside [b, nb] w.heap.size w w' := by
  have hb := h.bb
  have hg := h.gb
  have hnz := lt_of hnode
  have hf := tokG0
  obtain ⟨i0, hi, hz0, hz1, hz2⟩ := info_parts Tryz.info43
  go_enter Tryz.func84, Tryz.ntmps84
  go_wp2_with fail
  refine (take_no h ⟨#[118, 97, 114]⟩ hvar).mono ?_
  rintro r w1 ⟨rfl, b1⟩
  have h1 := h.below b1
  have z1 := b1.size
  have hN1 := (aside b1 (S := [])).keep hnode (lt_of hnode) (by simp)
  go_wp2_with fail
  refine (peek_any h1).mono ?_
  unfold tokV
  rintro r w2 ⟨rfl, b2⟩
  have h2 := h1.below b2
  have z2 := b2.size
  have hN2 := (aside b2 (S := [])).keep hN1 (lt_of hN1) (by simp)
  have A2 := (aside b1 (S := [b, nb])).trans (aside b2) z1
  clear b1 b2 hN1 hnode
  have cn6 := cell_of hN2 6
  simp at cn6
  go_wp2_with fail
  refine (allow_yes _ 0 60 (by decide) _).mono ?_
  rintro r w3 ⟨rfl, rfl⟩
  go_wp2_with fail
  have hE := fun W hW => @equation_one W b g cap L len nx op n1 e hW hk hn hc hq hcall hG
  clear hk hc hq hcall
  go_region_law (first
    | (refine step_call rfl 95 (.tmp 40) 76 rfl _ rfl (enter95 _ _) (hE _ ?_) ?_
       exact h2.drew
       rintro r w4 ⟨p, ao, c, bk, y, rfl, hbk, hbk4, hy4, h4, a4⟩
       refine ⟨_, rfl, ?_⟩
       have a4' : Aside [b] w3.heap.size w3 w4 := ⟨a4.os, a4.tape, a4.output, a4.size, a4.block⟩
       have z4 := a4'.size
       have hbk' : w3.heap.size ≤ bk := hbk
       have hN4 := a4'.keep hN2 (lt_of hN2) (by simp; omega)
       have A4 := A2.trans (a4'.wide (S' := [b, nb]) (fun k _ h hb => h (by simp at hb; simp [hb]))) (by omega)
       have cn46 := cell_of hN4 6
       have cn47 := cell_of (keep_alloc hN4 (.cells #[.int .i64 p, .slice ao 1 c, .string ⟨#[]⟩, .slice none 0 0, .slice (some ⟨bk, 0, none⟩) 1 1] 43 (0, 0))) 6
       simp at cn46
       simp only [List.getElem?_toArray, List.getElem?_cons_succ, List.getElem?_cons_zero] at cn47)
    | (refine step_append_grows rfl (.tmp 39) (.tmp 42) 37 rfl 43 i0 (.agg #[.int .i64 0, .slice none 0 0, .string ⟨#[]⟩, .slice none 0 0, .slice none 0 0]) 5 96 Tryz.underlying37 hi hz0 hz1 hz2 rfl (by decide) none 0 0 [] rfl (fun _ => ⟨rfl, rfl⟩) rfl (fun _ h => by cases h)
         ⟨w4.heap.size, 0, none⟩ 1 1 [.int .i64 p, .slice ao 1 c, .string ⟨#[]⟩, .slice none 0 0, .slice (some ⟨bk, 0, none⟩) 1 1] rfl rfl (new5 _ _ _ _ _ _ _) (by intro u hu; simp at hu; rcases hu with rfl | rfl | rfl | rfl | rfl <;> rfl) (by decide) (by unfold maxLen; omega) (by omega) ?_
       intro v5 w5 hown hgrow
       have b5 : Below w4.heap.size w4 w5 := ((Below.refl _ w4).alloc (Nat.le_refl _) _).grown hgrow (by simp) (fun k hk => by cases hk)
       obtain ⟨q, cq, rfl, hq1, hq2, hq3, _, hqc⟩ := owns_pos hown (by omega)
       have hq4 := hqc 4 _ rfl
       have hN5 := (aside b5 (S := [])).keep hN4 (lt_of hN4) (by simp)
       have cn56 := cell_of hN5 6
       have fn56 := free_of hN5 6
       simp at cn56
       clear hgrow hown))
  all_goals
    go_wp2_with fail
    refine (need_yes ((h4.below b5).set (p := ⟨nb, 6, none⟩) (by simp; omega) (by simp; omega) _) ⟨#[59]⟩ hs hn1).mono ?_
    rintro r w6 ⟨rfl, h6, a6⟩
    have z5 := b5.size
    have hq1' : w4.heap.size + 1 ≤ q := by simpa using hq1
    have z6 : w5.heap.size ≤ w6.heap.size := by simpa [World.setCell] using a6.size
    have hN6 := a6.keep (set_in hN5 6 _) (by simp [World.setCell]; omega) (by simp; omega)
    have hbk6 := a6.keep (keep_set ((aside b5 (S := [])).keep hbk4 (lt_of hbk4) (by simp)) (p := ⟨nb, 6, none⟩) (by simp; omega) _) (by simp [World.setCell]; have := lt_of hbk4; omega) (by simp; omega)
    have hqb : w6.heap[q]? = w5.heap[q]? := (a6.block q (by simp [World.setCell]; omega) (by simp; omega)).trans (Below.heap_setCell _ _ _ _ (by simp; omega))
    have A6 := ((A4.trans (aside b5) (by omega)).trans (Aside.setCell (S := [b, nb]) (p := ⟨nb, 6, none⟩) (by simp) _) (Nat.le_refl _)).trans (a6.wide (S' := [b, nb]) (fun k _ h hb => h (by simp at hb; simp [hb]))) (by simp [World.setCell]; omega)
    go_wp2
    go_end0
    exact ⟨q, cq, bk, y, rfl, by simpa using hN6, hq3, by omega, by omega, by omega, (World.cell?_of_block (w := w5) hqb).trans hq4, hbk6, hy4.kk, h6, A6⟩

end Go.Proofs.YtplofgkofkjhdaaGreatDoor
