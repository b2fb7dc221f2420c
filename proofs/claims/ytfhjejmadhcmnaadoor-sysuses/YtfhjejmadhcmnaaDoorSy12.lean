/-
  DERIVED. THE WALK of the document's Uses.
-/
import Derived.Test.YtfhjejmadhcmnaaDoorSy11
namespace Go.Proofs.YtfhjejmadhcmnaaDoor
open Go.Shelf Go.RowKit Go.Lib Go.IntWalk
set_option linter.unusedVariables false
set_option linter.unusedSimpArgs false
set_option maxRecDepth 100000

def foldI (L : List Int) : List Int := L.foldl (fun o x => ins x o) []
theorem foldI_step (L : List Int) (x : Int) : foldI (L ++ [x]) = ins x (foldI L) := by simp [foldI]
theorem foldl_len : ∀ (L o : List Int), (L.foldl (fun o x => ins x o) o).length ≤ o.length + L.length
  | [], o => by simp
  | x :: t, o => by
    have h1 := foldl_len t (ins x o)
    have h2 := ins_len x o
    simp only [List.foldl_cons, List.length_cons]
    omega
theorem foldI_len (L : List Int) : (foldI L).length ≤ L.length := by simpa [foldI] using foldl_len L []

set_option maxHeartbeats 1000000 in
theorem named_any (p : Pu) (w : World) : Calls Tryd.prog 19 #[.agg #[.int .i64 p.op, .int .i64 p.k, .int .i64 p.v, .int .i64 p.n]] w fun e w' => e = .returned (.bool (nmd p)) ∧ Below w.heap.size w w' := by
  have bA : Below w.heap.size w (w.alloc (.cells #[.int .i64 p.op, .int .i64 p.k, .int .i64 p.v, .int .i64 p.n] 36 (0, 0))) := (Below.refl _ _).alloc (Nat.le_refl _) _
  unfold nmd
  by_cases h2 : (p.op == 2) = true
  · go_enter Tryd.func19, Tryd.ntmps19
    go_wp2
    go_ret
    exact ⟨by simp [h2], bA⟩
  have h2 : (p.op == 2) = false := by simpa using h2
  by_cases h3 : (p.op == 3) = true
  · go_enter Tryd.func19, Tryd.ntmps19
    go_wp2
    go_ret
    exact ⟨by simp [h2, h3], bA⟩
  have h3 : (p.op == 3) = false := by simpa using h3
  go_enter Tryd.func19, Tryd.ntmps19
  go_wp2
  go_ret
  exact ⟨by simp [h2, h3], bA⟩

set_option maxHeartbeats 8000000 in
theorem refUses_any {ok : Nat → Prop} {w : World} {va ve : Value} {A : List Int} {E : List Pu} (op k out n : Int) (hA : HInts ok w va A) (hE : HPu ok w ve E) (hAl : A.length ≤ 1000000) (hEl : E.length ≤ 1000000) :
    Calls Tryd.prog 9 #[.agg #[.int .i64 op, .int .i64 k, .int .i64 out, .int .i64 n, va, ve]] w fun e w' => ∃ v, e = .returned v ∧ OwnL kInt w.heap.size w' v (foldI (usesL A E)) ∧ Below w.heap.size w w' := by
  obtain ⟨aA, cA, rfl, hA1, hA2, _⟩ := hA.at
  obtain ⟨aE, cE, rfl, hE1, hE2, _⟩ := hE.at
  have HA := hide hA
  have HE := hide hE
  clear hA hE
  obtain ⟨W, hW⟩ : ∃ W, W = w.alloc (.cells #[.int .i64 op, .int .i64 k, .int .i64 out, .int .i64 n, .slice aA A.length cA, .slice aE E.length cE] 25 (0, 0)) := ⟨_, rfl⟩
  have bA : Below w.heap.size w W := by rw [hW]; exact (Below.refl _ _).alloc (Nat.le_refl _) _
  have KA : W.heap[w.heap.size]? = some (.cells #[.int .i64 op, .int .i64 k, .int .i64 out, .int .i64 n, .slice aA A.length cA, .slice aE E.length cE] 25 (0, 0)) := by rw [hW]; exact heap_new w _
  go_enter Tryd.func9, Tryd.ntmps9
  go_upto_region 1 with fail
  rw [← hW]
  clear hW
  go_wp2_with fail
  go_loopg [3, 4] A.length (fun gh s3 s4 wr => ∃ i : Nat, s4 = .int .i64 (i : Int) ∧ i ≤ A.length ∧ A.length ≤ gh + i ∧ Hid (OwnL kInt (w.heap.size + 1) wr s3 (foldI (A.take i))) ∧ Below w.heap.size w wr ∧ wr.heap[w.heap.size]? = some (.cells #[.int .i64 op, .int .i64 k, .int .i64 out, .int .i64 n, .slice aA A.length cA, .slice aE E.length cE] 25 (0, 0)))
  case atStart => exact ⟨0, rfl, by omega, by omega, hide OwnL.nil, bA, KA⟩
  case round =>
    clear bA KA
    obtain ⟨i, rfl, his, hgi, HO, bR, K⟩ := hrel
    have yR := bR.size
    have yK := lt_of K
    have d4 := cell_of K 4
    have d5 := cell_of K 5
    simp at d4 d5
    by_cases hlt : i < A.length
    case neg =>
      have hge : ¬ (i : Int) < (A.length : Int) := by omega
      have hie : i = A.length := by omega
      have o2 := HO.out
      rw [hie, List.take_length] at o2
      clear HO hie
      obtain ⟨wo, hwo⟩ : ∃ wo, wo = wr := ⟨_, rfl⟩
      subst hwo
      go_upto_region 6 with fail
      clear hge hgi his
      go_wp2_with fail
      go_loopg [3, 5] E.length (fun gh s3 s5 wr => ∃ i : Nat, s5 = .int .i64 (i : Int) ∧ i ≤ E.length ∧ E.length ≤ gh + i ∧ Hid (OwnL kInt (w.heap.size + 1) wr s3 (foldI (usesL A (E.take i)))) ∧ Below w.heap.size w wr ∧ wr.heap[w.heap.size]? = some (.cells #[.int .i64 op, .int .i64 k, .int .i64 out, .int .i64 n, .slice aA A.length cA, .slice aE E.length cE] 25 (0, 0)))
      case atStart => exact ⟨0, rfl, by omega, by omega, hide (by simpa [usesL] using o2), bR, K⟩
      case round =>
        clear o2 bR K d4 d5 yR yK
        obtain ⟨i, rfl, his, hgi, HO, bR, K⟩ := hrel
        have yR := bR.size
        have yK := lt_of K
        have d5 := cell_of K 5
        simp at d5
        by_cases hlt : i < E.length
        case neg =>
          have hge : ¬ (i : Int) < (E.length : Int) := by omega
          have hie : i = E.length := by omega
          have ho := HO.out
          rw [hie, List.take_length] at ho
          go_wp2_with fail
          go_ret
          exact ⟨_, rfl, own_down ho (Nat.le_succ _), bR⟩
        case pos =>
          have hltI : (i : Int) < (E.length : Int) := by omega
          obtain ⟨ao', cap', ev, _, _, hatR⟩ := (HE.out.under bR).at
          injection ev with ev1 ev2 ev3
          subst ev1
          obtain ⟨b, o, rfl, hb, c0, c1, c2, c3⟩ := hatR i hlt
          clear hatR ev2 ev3
          have HX : Hid (∀ V : World, Below w.heap.size w V → V.cell? ⟨b, o + i * 4 + 2, none⟩ = some (.int .i64 (E[i]).v)) := hide (fun V bV => by
            obtain ⟨ao', cap', ev, _, _, hatV⟩ := (HE.out.under bV).at
            injection ev with ev1 ev2 ev3
            subst ev1
            obtain ⟨b', o', e, hb', _, _, c1, _⟩ := hatV i hlt
            injection e with e
            injection e with e1 e2 e3
            subst e1 e2
            exact c1)
          have HS := hide (usesL_step A E i hlt)
          have hul := foldI_len (usesL A (E.take i))
          have hul2 := usesL_len A (E.take i)
          rw [List.length_take, Nat.min_eq_left his] at hul2
          generalize E[i] = p at c0 c1 c2 c3 HS HX
          have hcall := named_any p
          cases hn : nmd p with
          | false =>
            rw [hn] at HS
            simp only [Bool.false_eq_true, if_false, List.append_nil] at HS
            have hc := hcall wr
            rw [hn] at hc
            go_wp2_with (go_at_call 19; refine hc.mono ?_; rintro e w' ⟨rfl, b5⟩)
            go_roundg (gk - 1)
            case measure => omega
            case rel => exact ⟨i + 1, by go_num, by omega, by omega, hide (by rw [HS.out]; exact HO.out.below b5), bR.trans (b5.mono yR), (b5.block _ yK).trans K⟩
          | true =>
            rw [hn] at HS
            simp only [if_true] at HS
            have hc := hcall wr
            rw [hn] at hc
            go_wp2_with fail
            refine hc.mono ?_
            rintro e w5 ⟨rfl, b5⟩
            have c5 := HX.out w5 (bR.trans (b5.mono yR))
            have K5 := (b5.block _ yK).trans K
            clear c0 c1 c2 c3 d5
            have d5 := cell_of K5 5
            simp at d5
            have own := HO.out.below b5
            have y5 := b5.size
            have hi := insert_any p.v (ints_row own.row) (by omega)
            go_wp2_with (go_at_call 18; refine hi.mono ?_; rintro e w6 ⟨v6, rfl, own6, b6⟩)
            go_roundg (gk - 1)
            case measure => omega
            case rel => exact ⟨i + 1, by go_num, by omega, by omega, hide (by rw [HS.out, foldI_step]; exact own_down own6 (by omega)), (bR.trans (b5.mono yR)).trans (b6.mono (by omega)), (b6.block _ (by omega)).trans K5⟩
    case pos =>
      have hltI : (i : Int) < (A.length : Int) := by omega
      obtain ⟨ao', cap', ev, _, _, hatR⟩ := (HA.out.under bR).at
      injection ev with ev1 ev2 ev3
      subst ev1
      obtain ⟨b, o, rfl, hb, c0⟩ := hatR i hlt
      clear hatR ev2 ev3
      have HT := hide (List.take_succ_eq_append_getElem hlt)
      have hul := foldI_len (A.take i)
      rw [List.length_take, Nat.min_eq_left his] at hul
      generalize A[i] = x at c0 HT
      have own := HO.out
      have hi := insert_any x (ints_row own.row) (by omega)
      go_wp2_with (go_at_call 18; refine hi.mono ?_; rintro e w6 ⟨v6, rfl, own6, b6⟩)
      go_roundg (gk - 1)
      case measure => omega
      case rel => exact ⟨i + 1, by go_num, by omega, by omega, hide (by rw [HT.out, foldI_step]; exact own_down own6 (by omega)), bR.trans (b6.mono yR), (b6.block _ yK).trans K⟩
end Go.Proofs.YtfhjejmadhcmnaaDoor
