/-
  DERIVED. THE WALK of a node's line that is an equation, where all goes well.
-/
import Derived.Test.YtmgaeapckfdbpaaDoorM06
import Derived.Deep.RegionLawGrows
import Derived.Defers
import Derived.Recover
namespace Go.Proofs.YtmgaeapckfdbpaaDoor
open Go.RowKit Go.IntWalk
set_option linter.unusedVariables false
set_option linter.unusedSimpArgs false
set_option maxRecDepth 100000

/-- a call of one argument, by its contract, as one step of a region that draws -/
theorem step_call {P : Program} {ops : Array Oper} {o : Oper} {a : Act} {w : World} {K : Act → World → Prop} {Q : Exit → Act → World → Prop} {E : Prop}
    (hg : o.guard = none) (f : FuncId) (s : Operand) (t : TypeId) (hop : o.op = Op.call { callee := Callee.value (Operand.func f), args := #[s], argTypes := #[t] }) (v : Value) (hs : a.eval s = v)
    (hent : (callFunc f #[v]).run P w = .ok (.enter f #[v]) w) {post : Ending → World → Prop} (hc : Calls P f #[v] w post) (hK : ∀ e w', post e w' → ∃ u, e = .returned u ∧ K (a.put o.dst u) w') :
    if Region.wanted o (yielded ops a.tmps) = true then Oper.wp P o a w K Q else E := by
  have hw : Region.wanted o (yielded ops a.tmps) = true := by simp [Region.wanted, hg]
  rw [if_pos hw]
  have hrun : (execOp a.eval o).run P w = .ok (.enter f #[v]) w := by
    have hev : a.eval (.func f) = .func (.func f) #[] #[] := rfl
    subst hs
    simp [execOp, hop, resolve, invoke, hev, go_sem]
    cases s <;> simpa [go_sem] using hent
  unfold Oper.wp
  rw [hrun]
  refine hc.mono ?_
  intro e w' hp
  obtain ⟨u, rfl, hk⟩ := hK e w' hp
  exact hk

theorem HEx.kk {ok : Nat → Prop} {w : World} {x : ExV} {e : Ex} (h : HEx ok w x.cells e) : x.k = e.k := by
  cases h with
  | mk C hS hL hE => rfl

theorem enter95 (args : Array Value) (w : World) : (callFunc 65 args).run Tryd.prog w = .ok (.enter 65 args) w := by kernel_rfl
theorem Tryd.info44 : (Tryd.prog.info? 44).map (fun i => (i.zero, i.size, i.bytes)) = some (some (.agg #[.int .i64 0, .slice none 0 0, .string ⟨#[]⟩, .slice none 0 0, .slice none 0 0]), 5, 96) := by kernel_rfl

theorem new5 (w : World) (a b c d e : Value) (t : TypeId) : ∀ j u, [a, b, c, d, e][j]? = some u → (w.alloc (.cells #[a, b, c, d, e] t)).cell? ((⟨w.heap.size, 0, none⟩ : Addr).add j) = some u := by
  intro j u hj
  match j, hj with
  | 0, hj => simp at hj; subst hj; simp [Addr.add]
  | 1, hj => simp at hj; subst hj; simp [Addr.add]
  | 2, hj => simp at hj; subst hj; simp [Addr.add]
  | 3, hj => simp at hj; subst hj; simp [Addr.add]
  | 4, hj => simp at hj; subst hj; simp [Addr.add]

set_option maxHeartbeats 8000000 in
theorem line_eq {w : World} {b g cap nb : Nat} {L : List Tk.Tok} {len nx op n1 : Nat} {e : Ex} {v0 v1 v2 v3 v4 v5 : Value} (h : Rd w b g cap L len nx op)
    (hnode : w.heap[nb]? = some (.cells #[v0, v1, v2, v3, v4, v5, .slice none 0 0] 39 (0, 0))) (hnb : nb ≠ b) (hng : nb ≠ g)
    (hvar : ((peekT L len nx).text == [118, 97, 114]) = false) (hk : (peekT L len nx).kind = 2) (hn : nx + 1 < L.length) (hc : ((peekT L len (nx + 1)).text == [44]) = false)
    (hq : ((peekT L len (nx + 1)).text == [61]) = true) (hcall : ((peekT L len (nx + 2)).text == [99, 97, 108, 108]) = false) (hG : Gives 70 b g cap L len op (nx + 2) n1 e)
    (hs : ((peekT L len n1).text == [59]) = true) (hn1 : n1 < L.length) :
    Calls Tryd.prog 56 #[.pointer (some ⟨b, 0, none⟩), .pointer (some ⟨nb, 0, none⟩)] w fun r w' => ∃ (q cq bk : Nat) (y : ExV),
      r = .returned (.tuple #[]) ∧ w'.heap[nb]? = some (.cells #[v0, v1, v2, v3, v4, v5, .slice (some ⟨q, 0, none⟩) 1 cq] 39 (0, 0)) ∧ 1 ≤ cq ∧ w.heap.size ≤ q ∧ q < w'.heap.size ∧ w.heap.size ≤ bk ∧
      w'.cell? ⟨q, 4, none⟩ = some (.slice (some ⟨bk, 0, none⟩) 1 1) ∧
      w'.heap[bk]? = some (.cells #[.int .i64 y.op, .int .i64 y.k, .int .i64 y.n, .string y.name, .slice y.aS y.nS y.cS, .slice y.aL y.nL y.cL] 46 (0, 0)) ∧ y.k = e.k ∧ Rd w' b g cap L len (n1 + 1) op ∧ Aside [b, nb] w.heap.size w w' := by
  have hb := h.bb
  have hg := h.gb
  have hnz := lt_of hnode
  have hf := tokG0
  obtain ⟨i0, hi, hz0, hz1, hz2⟩ := info_parts Tryd.info44
  go_enter Tryd.func56, Tryd.ntmps56
  go_wp2_with fail
  refine (take_no h ⟨#[118, 97, 114]⟩ hvar).mono ?_
  rintro r w1 ⟨rfl, b1⟩
  have h1 := h.below b1
  have z1 := b1.size
  have hN1 := (aside b1 (S := [])).keep hnode (lt_of hnode) (by simp)
  go_wp2_with fail
  refine (peek_any h1).mono ?_
  unfold tokV
  rintro r w2 ⟨rfl, b2⟩
  have h2 := h1.below b2
  have z2 := b2.size
  have hN2 := (aside b2 (S := [])).keep hN1 (lt_of hN1) (by simp)
  have A2 := (aside b1 (S := [b, nb])).trans (aside b2) z1
  clear b1 b2 hN1 hnode
  have cn6 := cell_of hN2 6
  simp at cn6
  go_wp2_with fail
  refine (allow_yes _ 0 60 (by decide) _).mono ?_
  rintro r w3 ⟨rfl, rfl⟩
  go_wp2_with fail
  have hE := fun W hW => @equation_one W b g cap L len nx op n1 e hW hk hn hc hq hcall hG
  clear hk hc hq hcall
  go_region_law (first
    | (refine step_call rfl 65 (.tmp 40) 66 rfl _ rfl (enter95 _ _) (hE _ ?_) ?_
       exact h2.drew
       rintro r w4 ⟨p, ao, c, bk, y, rfl, hbk, hbk4, hy4, h4, a4⟩
       refine ⟨_, rfl, ?_⟩
       have a4' : Aside [b] w3.heap.size w3 w4 := ⟨a4.os, a4.tape, a4.output, a4.size, a4.block⟩
       have z4 := a4'.size
       have hbk' : w3.heap.size ≤ bk := hbk
       have hN4 := a4'.keep hN2 (lt_of hN2) (by simp; omega)
       have A4 := A2.trans (a4'.wide (S' := [b, nb]) (fun k _ h hb => h (by simp at hb; simp [hb]))) (by omega)
       have cn46 := cell_of hN4 6
       have cn47 := cell_of (keep_alloc hN4 (.cells #[.int .i64 p, .slice ao 1 c, .string ⟨#[]⟩, .slice none 0 0, .slice (some ⟨bk, 0, none⟩) 1 1] 44 (0, 0))) 6
       simp at cn46
       simp only [List.getElem?_toArray, List.getElem?_cons_succ, List.getElem?_cons_zero] at cn47)
    | (refine step_append_grows rfl (.tmp 39) (.tmp 42) 37 rfl 44 i0 (.agg #[.int .i64 0, .slice none 0 0, .string ⟨#[]⟩, .slice none 0 0, .slice none 0 0]) 5 96 Tryd.underlying37 hi hz0 hz1 hz2 rfl (by decide) none 0 0 [] rfl (fun _ => ⟨rfl, rfl⟩) rfl (fun _ h => by cases h)
         ⟨w4.heap.size, 0, none⟩ 1 1 [.int .i64 p, .slice ao 1 c, .string ⟨#[]⟩, .slice none 0 0, .slice (some ⟨bk, 0, none⟩) 1 1] rfl rfl (new5 _ _ _ _ _ _ _) (by intro u hu; simp at hu; rcases hu with rfl | rfl | rfl | rfl | rfl <;> rfl) (by decide) (by unfold maxLen; omega) (by omega) ?_
       intro v5 w5 hown hgrow
       have b5 : Below w4.heap.size w4 w5 := ((Below.refl _ w4).alloc (Nat.le_refl _) _).grown hgrow (by simp) (fun k hk => by cases hk)
       obtain ⟨q, cq, rfl, hq1, hq2, hq3, _, hqc⟩ := owns_pos hown (by omega)
       have hq4 := hqc 4 _ rfl
       have hN5 := (aside b5 (S := [])).keep hN4 (lt_of hN4) (by simp)
       have cn56 := cell_of hN5 6
       have fn56 := free_of hN5 6
       simp at cn56
       clear hgrow hown))
  all_goals
    go_wp2_with fail
    refine (need_yes ((h4.below b5).set (p := ⟨nb, 6, none⟩) (by simp; omega) (by simp; omega) _) ⟨#[59]⟩ hs hn1).mono ?_
    rintro r w6 ⟨rfl, h6, a6⟩
    have z5 := b5.size
    have hq1' : w4.heap.size + 1 ≤ q := by simpa using hq1
    have z6 : w5.heap.size ≤ w6.heap.size := by simpa [World.setCell] using a6.size
    have hN6 := a6.keep (set_in hN5 6 _) (by simp [World.setCell]; omega) (by simp; omega)
    have hbk6 := a6.keep (keep_set ((aside b5 (S := [])).keep hbk4 (lt_of hbk4) (by simp)) (p := ⟨nb, 6, none⟩) (by simp; omega) _) (by simp [World.setCell]; have := lt_of hbk4; omega) (by simp; omega)
    have hqb : w6.heap[q]? = w5.heap[q]? := (a6.block q (by simp [World.setCell]; omega) (by simp; omega)).trans (Below.heap_setCell _ _ _ _ (by simp; omega))
    have A6 := ((A4.trans (aside b5) (by omega)).trans (Aside.setCell (S := [b, nb]) (p := ⟨nb, 6, none⟩) (by simp) _) (Nat.le_refl _)).trans (a6.wide (S' := [b, nb]) (fun k _ h hb => h (by simp at hb; simp [hb]))) (by simp [World.setCell]; omega)
    go_wp2
    go_end0
    exact ⟨q, cq, bk, y, rfl, by simpa using hN6, hq3, by omega, by omega, by omega, (World.cell?_of_block (w := w5) hqb).trans hq4, hbk6, hy4.kk, h6, A6⟩

end Go.Proofs.YtmgaeapckfdbpaaDoor


/-
  DERIVED. THE WALKS of the reader's node and program over the text of syntaxBegun.
-/
namespace Go.Proofs.YtmgaeapckfdbpaaDoor
open Go.RowKit Go.IntWalk
set_option linter.unusedVariables false
set_option linter.unusedSimpArgs false
set_option maxRecDepth 100000

/-- the tokens of the text of syntaxBegun -/
def begunL : List Tk.Tok := [⟨1, 0, [110, 111, 100, 101], 0⟩, ⟨2, 5, [109, 97, 105, 110], 0⟩, ⟨4, 9, [40], 0⟩, ⟨2, 10, [120], 0⟩, ⟨4, 11, [58], 0⟩, ⟨1, 13, [105, 110, 116], 0⟩, ⟨4, 16, [41], 0⟩, ⟨4, 18, [45, 62], 0⟩, ⟨4, 21, [40], 0⟩, ⟨2, 22, [121], 0⟩, ⟨4, 23, [58], 0⟩, ⟨1, 25, [105, 110, 116], 0⟩, ⟨4, 28, [41], 0⟩, ⟨4, 30, [123], 0⟩, ⟨2, 32, [121], 0⟩, ⟨4, 34, [61], 0⟩, ⟨2, 36, [120], 0⟩, ⟨4, 38, [45], 0⟩, ⟨3, 40, [49], 1⟩, ⟨4, 42, [45], 0⟩, ⟨3, 44, [50], 2⟩, ⟨4, 45, [59], 0⟩, ⟨4, 47, [125], 0⟩]
def begunS : List UInt8 := [110, 111, 100, 101, 32, 109, 97, 105, 110, 40, 120, 58, 32, 105, 110, 116, 41, 32, 45, 62, 32, 40, 121, 58, 32, 105, 110, 116, 41, 32, 123, 32, 121, 32, 61, 32, 120, 32, 45, 32, 49, 32, 45, 32, 50, 59, 32, 125]
theorem scan_begun : Tk.scan begunS = (begunL, 0, 0) := by rfl

/-- x - 1 - 2 -/
def begunX : Ex := .mk 5 2 0 ⟨#[]⟩ [] [.mk 5 2 0 ⟨#[]⟩ [] [.mk 3 0 0 (str [120]) [] [], .mk 1 0 1 ⟨#[]⟩ [] []], .mk 1 0 2 ⟨#[]⟩ [] []]

theorem begun_product {b g cap op : Nat} : Gives 83 b g cap begunL 48 op 16 17 (.mk 3 0 0 (str [120]) [] []) ∧ Gives 83 b g cap begunL 48 op 18 19 (.mk 1 0 1 ⟨#[]⟩ [] []) ∧ Gives 83 b g cap begunL 48 op 20 21 (.mk 1 0 2 ⟨#[]⟩ [] []) :=
  ⟨product_ok (ahead_ok (unit_name (nx := 16) rfl (by decide)) rfl rfl rfl) (.stop rfl), product_ok (ahead_ok (unit_num (nx := 18) rfl (by decide)) rfl rfl rfl) (.stop rfl), product_ok (ahead_ok (unit_num (nx := 20) rfl (by decide)) rfl rfl rfl) (.stop rfl)⟩

theorem begun_whole {b g cap op : Nat} : Gives 70 b g cap begunL 48 op 16 21 begunX := by
  have hp := @begun_product b g cap op
  have hs : Gives 82 b g cap begunL 48 op 16 21 begunX := sum_ok hp.1 (.step (n' := 19) (k := 2) rfl (by decide) (by decide) hp.2.1 (.step (n' := 21) (k := 2) rfl (by decide) (by decide) hp.2.2 (.stop rfl)))
  exact whole_ok (expr_ok (conjunction_ok (comparison_one hs rfl) (.stop rfl)) (.stop rfl)) (by decide)

set_option maxHeartbeats 16000000 in
theorem node_begun {w : World} {b g cap op : Nat} (h : Rd w b g cap begunL 48 0 op) :
    Calls Tryd.prog 38 #[.pointer (some ⟨b, 0, none⟩)] w fun r w' => ∃ (a3 a4 : Option Addr) (c3 c4 q cq bk : Nat) (y : ExV),
      r = .returned (.agg #[.string (str [109, 97, 105, 110]), .int .i64 0, .slice none 0 0, .slice a3 1 c3, .slice a4 1 c4, .slice none 0 0, .slice (some ⟨q, 0, none⟩) 1 cq]) ∧ 1 ≤ cq ∧ w.heap.size ≤ q ∧ q < w'.heap.size ∧ w.heap.size ≤ bk ∧
      w'.cell? ⟨q, 4, none⟩ = some (.slice (some ⟨bk, 0, none⟩) 1 1) ∧
      w'.heap[bk]? = some (.cells #[.int .i64 y.op, .int .i64 y.k, .int .i64 y.n, .string y.name, .slice y.aS y.nS y.cS, .slice y.aL y.nL y.cL] 46 (0, 0)) ∧ y.k = 2 ∧ Rd w' b g cap begunL 48 23 op ∧ Aside [b] w.heap.size w w' := by
  have hb := h.bb
  have hg := h.gb
  have hf := tokG1
  have hmf := makes
  go_enter Tryd.func38, Tryd.ntmps38
  go_wp2_with fail
  refine (peek_any (h.alloc _)).mono ?_
  unfold tokV
  rintro r w1 ⟨rfl, b1⟩
  have ep : peekT begunL 48 0 = ⟨1, 0, [110, 111, 100, 101], 0⟩ := rfl
  rw [ep]
  clear ep
  have h1 := (h.alloc _).below b1
  have z1 : w.heap.size + 1 ≤ w1.heap.size := by simpa using b1.size
  have hA1 := (aside b1 (S := [])).keep (heap_new w _) (by simp) (by simp)
  have A1 := ((Aside.refl (S := [b]) (B := w.heap.size) w).alloc (Nat.le_refl _) _).trans (aside b1) (by simp)
  clear b1
  go_wp2_with fail
  refine (need_yes (h1.alloc _) ⟨#[110, 111, 100, 101]⟩ rfl (by decide)).mono ?_
  rintro r w2 ⟨rfl, h2, a2⟩
  have z2 : w1.heap.size + 1 ≤ w2.heap.size := by simpa using a2.size
  have hA2 := a2.keep (keep_alloc hA1 _) (by simp; omega) (by simp; omega)
  have hN2 := a2.keep (heap_new w1 _) (by simp) (by simp; omega)
  have A2 := (A1.alloc (by omega) _).trans a2 (by simp; omega)
  clear a2 hA1 A1
  go_wp2_with fail
  refine (name_yes h2 rfl (by decide)).mono ?_
  rintro r w3 ⟨rfl, h3, a3⟩
  have z3 : w2.heap.size ≤ w3.heap.size := by have := a3.size; (try simp [World.setCell] at this); omega
  have hA3 := a3.keep (hA2) (by (try simp [World.setCell]); omega) (by simp; omega)
  have hN3 := a3.keep (hN2) (by (try simp [World.setCell]); omega) (by simp; omega)
  have A3 := (A2).trans a3 (by (try simp [World.setCell]); omega)
  have en : str (peekT begunL 48 (0 + 1)).text = str [109, 97, 105, 110] := rfl
  rw [en]
  clear en a3 hA2 hN2 A2
  have cn0 := cell_of hN3 0
  have fn0 := free_of hN3 0
  simp at cn0
  go_wp2_with fail
  refine (take_no (h3.set (by simp; omega) (by simp; omega) _) ⟨#[60]⟩ rfl).mono ?_
  rintro r w4 ⟨rfl, b4⟩
  have h4 := (h3.set (p := ⟨w1.heap.size, 0, none⟩) (by simp; omega) (by simp; omega) _).below b4
  have z4 : w3.heap.size ≤ w4.heap.size := by have := b4.size; (try simp [World.setCell] at this); omega
  have hA4 := (aside b4 (S := [])).keep (keep_set hA3 (by simp; omega) _) (by (try simp [World.setCell]); omega) (by simp)
  have hN4 := (aside b4 (S := [])).keep (set_in hN3 0 _) (by (try simp [World.setCell]); omega) (by simp)
  have A4 := (A3.set (p := ⟨w1.heap.size, 0, none⟩) (by simp; omega) _).trans (aside b4) (by (try simp [World.setCell]); omega)
  simp at hN4
  clear b4 hA3 hN3 A3 cn0 fn0
  go_wp2_with fail
  refine (need_yes h4 ⟨#[40]⟩ rfl (by decide)).mono ?_
  rintro r w5 ⟨rfl, h5, a5⟩
  have z5 : w4.heap.size ≤ w5.heap.size := by have := a5.size; (try simp [World.setCell] at this); omega
  have hA5 := a5.keep (hA4) (by (try simp [World.setCell]); omega) (by simp; omega)
  have hN5 := a5.keep (hN4) (by (try simp [World.setCell]); omega) (by simp; omega)
  have A5 := (A4).trans a5 (by (try simp [World.setCell]); omega)
  clear a5 hA4 hN4 A4
  go_wp2_with fail
  refine (take_no h5 ⟨#[41]⟩ rfl).mono ?_
  rintro r w6 ⟨rfl, b6⟩
  have h6 := h5.below b6
  have z6 := b6.size
  have hA6 := (aside b6 (S := [])).keep hA5 (lt_of hA5) (by simp)
  have hN6 := (aside b6 (S := [])).keep hN5 (lt_of hN5) (by simp)
  have A6 := A5.trans (aside b6) (by omega)
  clear b6 hA5 hN5 A5
  go_wp2_with fail
  refine (rowDecl_one h6 ⟨by decide, rfl, rfl, rfl, rfl⟩ rfl).mono ?_
  rintro r w7 ⟨ao3, c3, rfl, h7, a7⟩
  have z7 : w6.heap.size ≤ w7.heap.size := by have := a7.size; (try simp [World.setCell] at this); omega
  have hA7 := a7.keep (hA6) (by (try simp [World.setCell]); omega) (by simp; omega)
  have hN7 := a7.keep (hN6) (by (try simp [World.setCell]); omega) (by simp; omega)
  have A7 := (A6).trans a7 (by (try simp [World.setCell]); omega)
  clear a7 hA6 hN6 A6
  have cn3 := cell_of hN7 3
  have fn3 := free_of hN7 3
  simp at cn3
  go_wp2_with fail
  refine (need_yes (h7.set (by simp; omega) (by simp; omega) _) ⟨#[41]⟩ rfl (by decide)).mono ?_
  rintro r w8 ⟨rfl, h8, a8⟩
  have z8 : w7.heap.size ≤ w8.heap.size := by have := a8.size; (try simp [World.setCell] at this); omega
  have hA8 := a8.keep (keep_set hA7 (by simp; omega) _) (by (try simp [World.setCell]); omega) (by simp; omega)
  have hN8 := a8.keep (set_in hN7 3 _) (by (try simp [World.setCell]); omega) (by simp; omega)
  have A8 := (A7.set (p := ⟨w1.heap.size, 3, none⟩) (by simp; omega) _).trans a8 (by (try simp [World.setCell]); omega)
  simp at hN8
  clear a8 hA7 hN7 A7 cn3 fn3
  go_wp2_with fail
  refine (need_yes h8 ⟨#[45, 62]⟩ rfl (by decide)).mono ?_
  rintro r w9 ⟨rfl, h9, a9⟩
  have z9 : w8.heap.size ≤ w9.heap.size := by have := a9.size; (try simp [World.setCell] at this); omega
  have hA9 := a9.keep (hA8) (by (try simp [World.setCell]); omega) (by simp; omega)
  have hN9 := a9.keep (hN8) (by (try simp [World.setCell]); omega) (by simp; omega)
  have A9 := (A8).trans a9 (by (try simp [World.setCell]); omega)
  clear a9 hA8 hN8 A8
  go_wp2_with fail
  refine (need_yes h9 ⟨#[40]⟩ rfl (by decide)).mono ?_
  rintro r w10 ⟨rfl, h10, a10⟩
  have z10 : w9.heap.size ≤ w10.heap.size := by have := a10.size; (try simp [World.setCell] at this); omega
  have hA10 := a10.keep (hA9) (by (try simp [World.setCell]); omega) (by simp; omega)
  have hN10 := a10.keep (hN9) (by (try simp [World.setCell]); omega) (by simp; omega)
  have A10 := (A9).trans a10 (by (try simp [World.setCell]); omega)
  clear a10 hA9 hN9 A9
  go_wp2_with fail
  refine (rowDecl_one h10 ⟨by decide, rfl, rfl, rfl, rfl⟩ rfl).mono ?_
  rintro r w11 ⟨ao4, c4, rfl, h11, a11⟩
  have z11 : w10.heap.size ≤ w11.heap.size := by have := a11.size; (try simp [World.setCell] at this); omega
  have hA11 := a11.keep (hA10) (by (try simp [World.setCell]); omega) (by simp; omega)
  have hN11 := a11.keep (hN10) (by (try simp [World.setCell]); omega) (by simp; omega)
  have A11 := (A10).trans a11 (by (try simp [World.setCell]); omega)
  clear a11 hA10 hN10 A10
  have cn4 := cell_of hN11 4
  have fn4 := free_of hN11 4
  simp at cn4
  go_wp2_with fail
  refine (need_yes (h11.set (by simp; omega) (by simp; omega) _) ⟨#[41]⟩ rfl (by decide)).mono ?_
  rintro r w12 ⟨rfl, h12, a12⟩
  have z12 : w11.heap.size ≤ w12.heap.size := by have := a12.size; (try simp [World.setCell] at this); omega
  have hA12 := a12.keep (keep_set hA11 (by simp; omega) _) (by (try simp [World.setCell]); omega) (by simp; omega)
  have hN12 := a12.keep (set_in hN11 4 _) (by (try simp [World.setCell]); omega) (by simp; omega)
  have A12 := (A11.set (p := ⟨w1.heap.size, 4, none⟩) (by simp; omega) _).trans a12 (by (try simp [World.setCell]); omega)
  simp at hN12
  clear a12 hA11 hN11 A11 cn4 fn4
  go_wp2_with fail
  refine (need_yes h12 ⟨#[123]⟩ rfl (by decide)).mono ?_
  rintro r w13 ⟨rfl, h13, a13⟩
  have z13 : w12.heap.size ≤ w13.heap.size := by have := a13.size; (try simp [World.setCell] at this); omega
  have hA13 := a13.keep (hA12) (by (try simp [World.setCell]); omega) (by simp; omega)
  have hN13 := a13.keep (hN12) (by (try simp [World.setCell]); omega) (by simp; omega)
  have A13 := (A12).trans a13 (by (try simp [World.setCell]); omega)
  clear a13 hA12 hN12 A12
  go_wp2
  go_loopg [48] 1 (fun k v wr => (k = 1 ∧ wr = w13) ∨ (k = 0 ∧ ∃ (q cq bk : Nat) (y : ExV), wr.heap[w1.heap.size]? = some (.cells #[.string (str [109, 97, 105, 110]), .int .i64 0, .slice none 0 0, .slice ao3 1 c3, .slice ao4 1 c4, .slice none 0 0, .slice (some ⟨q, 0, none⟩) 1 cq] 39 (0, 0)) ∧ 1 ≤ cq ∧ w1.heap.size < q ∧ q < wr.heap.size ∧ w1.heap.size < bk ∧
      wr.cell? ⟨q, 4, none⟩ = some (.slice (some ⟨bk, 0, none⟩) 1 1) ∧
      wr.heap[bk]? = some (.cells #[.int .i64 y.op, .int .i64 y.k, .int .i64 y.n, .string y.name, .slice y.aS y.nS y.cS, .slice y.aL y.nL y.cL] 46 (0, 0)) ∧ y.k = 2 ∧ Rd wr b g cap begunL 48 22 op ∧ Aside [b] w.heap.size w wr ∧
      wr.heap[w.heap.size]? = some (.cells #[.string ⟨#[]⟩, .int .i64 0, .slice none 0 0, .slice none 0 0, .slice none 0 0, .slice none 0 0, .slice none 0 0] 39 (0, 0))))
  case atStart => exact .inl ⟨rfl, rfl⟩
  case round =>
    rcases hrel with ⟨rfl, rfl⟩ | ⟨rfl, q, cq, bk, y, hN, hcq, hq1, hq2, hbk1, hq4, hbk, hyk, hrd, has, hA⟩
    · go_wp2_with fail
      refine (take_no h13 ⟨#[125]⟩ rfl).mono ?_
      rintro r w14 ⟨rfl, b14⟩
      have h14 := h13.below b14
      have z14 := b14.size
      have hA14 := (aside b14 (S := [])).keep hA13 (lt_of hA13) (by simp)
      have hN14 := (aside b14 (S := [])).keep hN13 (lt_of hN13) (by simp)
      have A14 := A13.trans (aside b14) (by omega)
      clear b14 hA13 hN13 A13
      go_wp2_with fail
      refine (line_eq h14 hN14 (by omega) (by omega) rfl rfl (by decide) rfl rfl rfl begun_whole rfl (by decide)).mono ?_
      rintro r w15 ⟨q, cq, bk, y, rfl, hN15, hcq, hq1, hq2, hbk1, hq4, hbk, hyk, h15, a15⟩
      have z15 := a15.size
      have hA15 := a15.keep hA14 (lt_of hA14) (by simp; omega)
      have A15 := A14.trans ((a15.mono (B' := w.heap.size) (by omega)).wide (S' := [b]) (fun k hk hn => by simp at hn; simp; omega)) (Nat.le_refl _)
      go_wp2
      go_roundg 0
      case measure => omega
      case rel => exact .inr ⟨rfl, q, cq, bk, y, hN15, hcq, by omega, hq2, by omega, hq4, hbk, hyk, h15, A15, hA15⟩
    · go_wp2_with fail
      refine (take_yes hrd ⟨#[125]⟩ rfl (by decide)).mono ?_
      rintro r w16 ⟨rfl, h16, a16⟩
      have z16 := a16.size
      have hN16 := a16.keep hN (lt_of hN) (by simp; omega)
      have hA16 := a16.keep hA (lt_of hA) (by simp; omega)
      have hbk16 := a16.keep hbk (lt_of hbk) (by simp; omega)
      have hqc := (World.cell?_of_block (w := wr) (a := ⟨q, 4, none⟩) (a16.block q hq2 (by simp; omega))).trans hq4
      have A16 := has.trans a16 (by have := has.size; omega)
      clear a16 hN hA hbk hq4 has
      have fa := fun o => free_of hA16 o
      have ca0 := cell_of hA16 0
      have ca1 := cell_of hA16 1
      have ca2 := cell_of hA16 2
      have ca3 := cell_of hA16 3
      have ca4 := cell_of hA16 4
      have ca5 := cell_of hA16 5
      have ca6 := cell_of hA16 6
      have cn0 := cell_of hN16 0
      have cn1 := cell_of hN16 1
      have cn2 := cell_of hN16 2
      have cn3 := cell_of hN16 3
      have cn4 := cell_of hN16 4
      have cn5 := cell_of hN16 5
      have cn6 := cell_of hN16 6
      simp at ca0 ca1 ca2 ca3 ca4 ca5 ca6 cn0 cn1 cn2 cn3 cn4 cn5 cn6
      go_wp2
      have hbkZ := (keep_set (keep_set (keep_set (keep_set (keep_set (keep_set (keep_set hbk16 (p := ⟨w.heap.size, 0, none⟩) (by simp; omega) (.string (str [109, 97, 105, 110]))) (p := ⟨w.heap.size, 1, none⟩) (by simp; omega) (.int .i64 0)) (p := ⟨w.heap.size, 2, none⟩) (by simp; omega) (.slice none 0 0)) (p := ⟨w.heap.size, 3, none⟩) (by simp; omega) (.slice ao3 1 c3)) (p := ⟨w.heap.size, 4, none⟩) (by simp; omega) (.slice ao4 1 c4)) (p := ⟨w.heap.size, 5, none⟩) (by simp; omega) (.slice none 0 0)) (p := ⟨w.heap.size, 6, none⟩) (by simp; omega) (.slice (some ⟨q, 0, none⟩) 1 cq))
      have hqZ : ∀ (k : Nat) (u : Value) (W : World), (W.setCell ⟨w.heap.size, k, none⟩ u).cell? ⟨q, 4, none⟩ = W.cell? ⟨q, 4, none⟩ := fun k u W => World.cell?_of_block (w := W) (Below.heap_setCell _ _ _ _ (by simp; omega))
      have hzq : q < w16.heap.size := by omega
      refine bodyPost_ret (v := .agg #[.string (str [109, 97, 105, 110]), .int .i64 0, .slice none 0 0, .slice ao3 1 c3, .slice ao4 1 c4, .slice none 0 0, .slice (some ⟨q, 0, none⟩) 1 cq]) (by simp [results, Tryd.results38, go_sem, ca0, ca1, ca2, ca3, ca4, ca5, ca6]) rfl ⟨ao3, ao4, c3, c4, q, cq, bk, y, rfl, hcq, by omega, by simpa [World.setCell] using hzq, by omega, ?_, hbkZ, hyk, ?_, ?_⟩
      · rw [hqZ, hqZ, hqZ, hqZ, hqZ, hqZ, hqZ]
        exact hqc
      · exact (((((((h16.set (by simp; omega) (by simp; omega) _).set (by simp; omega) (by simp; omega) _).set (by simp; omega) (by simp; omega) _).set (by simp; omega) (by simp; omega) _).set (by simp; omega) (by simp; omega) _).set (by simp; omega) (by simp; omega) _).set (by simp; omega) (by simp; omega) _)
      · exact (((((((A16.set (by simp) _).set (by simp) _).set (by simp) _).set (by simp) _).set (by simp) _).set (by simp) _).set (by simp) _)

end Go.Proofs.YtmgaeapckfdbpaaDoor


/-
  DERIVED. THE WALKS of the reader's program, of readProgram and of Parse over the text of syntaxBegun, and of syntaxBegun.
-/
namespace Go.Proofs.YtmgaeapckfdbpaaDoor
open Go.RowKit Go.IntWalk
set_option linter.unusedVariables false
set_option linter.unusedSimpArgs false
set_option maxRecDepth 100000

/-- A program of one node, of one equation, whose first expression's operator is 2. -/
def BegunAt (B : Nat) (w : World) (nb : Nat) : Prop := ∃ q cq bk : Nat, B ≤ nb ∧ nb < w.heap.size ∧ B ≤ q ∧ q < w.heap.size ∧ B ≤ bk ∧ bk < w.heap.size ∧ 1 ≤ cq ∧
  w.cell? ⟨nb, 6, none⟩ = some (.slice (some ⟨q, 0, none⟩) 1 cq) ∧ w.cell? ⟨q, 4, none⟩ = some (.slice (some ⟨bk, 0, none⟩) 1 1) ∧ w.cell? ⟨bk, 1, none⟩ = some (.int .i64 2)

theorem BegunAt.keep {B : Nat} {w w' : World} {nb : Nat} (h : BegunAt B w nb) (hz : w.heap.size ≤ w'.heap.size) (hk : ∀ k, B ≤ k → k < w.heap.size → w'.heap[k]? = w.heap[k]?) : BegunAt B w' nb := by
  obtain ⟨q, cq, bk, h1, h2, h3, h4, h5, h6, h7, h8, h9, h10⟩ := h
  exact ⟨q, cq, bk, h1, by omega, h3, by omega, h5, by omega, h7, (World.cell?_of_block (w := w) (a := ⟨nb, 6, none⟩) (hk nb h1 h2)).trans h8, (World.cell?_of_block (w := w) (a := ⟨q, 4, none⟩) (hk q h3 h4)).trans h9, (World.cell?_of_block (w := w) (a := ⟨bk, 1, none⟩) (hk bk h5 h6)).trans h10⟩

set_option maxHeartbeats 8000000 in
theorem program_begun {w : World} {b g cap op : Nat} (h : Rd w b g cap begunL 48 0 op) :
    Calls Tryd.prog 26 #[.pointer (some ⟨b, 0, none⟩)] w fun r w' => ∃ nb, r = .returned (.agg #[.slice (some ⟨nb, 0, none⟩) 1 1]) ∧ BegunAt (w.heap.size + 1) w' nb ∧ Aside [b] w.heap.size w w' := by
  have hb := h.bb
  have hg := h.gb
  have hf := tokG0
  go_enter Tryd.func26, Tryd.ntmps26
  go_wp2_with fail
  refine (node_begun (h.alloc _)).mono ?_
  rintro r w1 ⟨a3, a4, c3, c4, q, cq, bk, y, rfl, hcq, hq1, hq2, hbk1, hq4, hbk, hyk, h1, a1⟩
  have z1 : w.heap.size + 1 ≤ w1.heap.size := by simpa using a1.size
  have hA1 := a1.keep (heap_new w _) (by simp) (by simp; omega)
  have A1 := ((Aside.refl (S := [b]) (B := w.heap.size) w).alloc (Nat.le_refl _) _).trans a1 (by simp)
  have hq1' : w.heap.size + 1 ≤ q := by simpa using hq1
  have hbk1' : w.heap.size + 1 ≤ bk := by simpa using hbk1
  have hbz := lt_of hbk
  have hbc := cell_of hbk 1
  simp at hbc
  rw [hyk] at hbc
  clear a1 hq1 hbk1
  go_wp2
  obtain ⟨W, hW⟩ : ∃ W, W = w1.alloc (Obj.cells #[.string (str [109, 97, 105, 110]), .int .i64 0, .slice none 0 0, .slice a3 1 c3, .slice a4 1 c4, .slice none 0 0, .slice (some ⟨q, 0, none⟩) 1 cq] 39 (0, 0)) := ⟨_, rfl⟩
  have hzW : W.heap.size = w1.heap.size + 1 := by rw [hW]; simp
  have hNW := heap_new w1 (Obj.cells #[.string (str [109, 97, 105, 110]), .int .i64 0, .slice none 0 0, .slice a3 1 c3, .slice a4 1 c4, .slice none 0 0, .slice (some ⟨q, 0, none⟩) 1 cq] 39 (0, 0))
  have hAW := keep_alloc hA1 (Obj.cells #[.string (str [109, 97, 105, 110]), .int .i64 0, .slice none 0 0, .slice a3 1 c3, .slice a4 1 c4, .slice none 0 0, .slice (some ⟨q, 0, none⟩) 1 cq] 39 (0, 0))
  have hbW : Below w1.heap.size w1 W := by rw [hW]; exact (Below.refl _ w1).alloc (Nat.le_refl _) _
  rw [← hW] at hNW hAW ⊢
  clear hW
  go_loopg [3] 0 (fun k v wr => v = .slice (some ⟨w1.heap.size, 0, none⟩) 1 1 ∧ wr = W)
  case atStart => exact ⟨rfl, rfl⟩
  case round =>
    obtain ⟨rfl, rfl⟩ := hrel
    go_wp2_with fail
    refine (peek_any (h1.below hbW)).mono ?_
    unfold tokV
    rintro r w2 ⟨rfl, b2⟩
    have ep : peekT begunL 48 23 = ⟨0, 48, [], 0⟩ := rfl
    rw [ep]
    have z2 := b2.size
    have hA2 := (aside b2 (S := [])).keep hAW (lt_of hAW) (by simp)
    have hN2 := (aside b2 (S := [])).keep hNW (lt_of hNW) (by simp)
    have A2 := (A1.trans (aside hbW) (by omega)).trans (aside b2) (by omega)
    have b12 : Below w1.heap.size w1 w2 := hbW.trans (b2.mono (by omega))
    have hBg : BegunAt (w.heap.size + 1) w2 w1.heap.size := ⟨q, cq, bk, z1, by omega, hq1', by omega, hbk1', by omega, hcq, cell_of hN2 6, (b12.cell (p := ⟨q, 4, none⟩) hq2).trans hq4, (b12.cell (p := ⟨bk, 1, none⟩) hbz).trans hbc⟩
    have ca0 := cell_of hA2 0
    have fa0 := free_of hA2 0
    simp at ca0
    clear b2 hAW hNW
    go_wp2
    refine bodyPost_ret (v := .agg #[.slice (some ⟨w1.heap.size, 0, none⟩) 1 1]) (by simp [results, Tryd.results26, go_sem, ca0]) rfl ⟨w1.heap.size, rfl, hBg.keep (by simp [World.setCell]) (fun k hk _ => Below.heap_setCell _ _ _ _ (by simp; omega)), A2.set (by simp) _⟩

set_option maxHeartbeats 2000000 in
theorem caught_idle (p q : Addr) (w : World) :
    CallsD Tryd.prog 25 #[.pointer (some p), .pointer (some q)] .returning w fun e u' w' => e = .returned (.tuple #[]) ∧ u' = .returning ∧ w' = w := by
  refine callsD_of_wpS Tryd.func25 rfl fun c₀ cs hu => ?_
  apply wpS_seq
  apply wpS_region
  simp [wpOpsS, go_sem, recoverD, hu, Tryd.ntmps25, Exit.thenS]
  refine wpS_of_wp ?_
  go_wp2
  cases c₀
  simp_all [bodyPostS, results, Tryd.results25]

end Go.Proofs.YtmgaeapckfdbpaaDoor
