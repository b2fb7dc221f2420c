/-
  DERIVED. THE WALK of sys.Uses: the whole of it.
-/
import Derived.Test.YtfhjejmadhcmnaaDoorSy4
namespace Go.Proofs.YtfhjejmadhcmnaaDoor
open Go.Shelf Go.RowKit Go.Lib Go.IntWalk
set_option linter.unusedVariables false
set_option linter.unusedSimpArgs false
set_option maxRecDepth 100000

/-- the variables that a rule uses, as they stand -/
def usesL (A : List Int) (E : List Pu) : List Int := A ++ (E.filter nmd).map (·.v)
def usesT (A : List Int) (E : List Pu) : List Int := Lib.compact ((usesL A E).mergeSort leB)
theorem usesL_step (A : List Int) (E : List Pu) (i : Nat) (h : i < E.length) : usesL A (E.take (i + 1)) = usesL A (E.take i) ++ (if nmd E[i] = true then [(E[i]).v] else []) := by
  unfold usesL
  rw [List.take_succ_eq_append_getElem h, List.filter_append, List.map_append, List.append_assoc]
  congr 2
  by_cases hn : nmd E[i] = true <;> simp [hn]
theorem usesL_len (A : List Int) (E : List Pu) : (usesL A E).length ≤ A.length + E.length := by
  unfold usesL
  have := List.length_filter_le nmd E
  simp; omega

theorem wpList_cat {w w' : World} {ops : Array Oper} {rest : List Oper} {o : Oper} {a : Act} {Q : Exit → Act → World → Prop} (hgd : o.guard = none) (s x : Operand) (ho : o.op = .call { callee := .builtin .append, args := #[s, x], argTypes := #[22, 22] }) (v u v' : Value) (hs : a.eval s = v) (hx : a.eval x = u)
    (hr : (Builtin.append_ #[22, 22] o.type #[v, u]).run Tryd.prog w = .ok v' w') (h : wpList Tryd.prog ops Q rest (a.put o.dst v') w') : wpList Tryd.prog ops Q (o :: rest) a w := by
  refine wpList_plain hgd fun _ hK => ?_
  unfold Oper.wp execOp
  simp only [ho, resolve, invoke, builtin, Sem.run_bind, Sem.run_pure, Result.andThen_ok, List.map_toArray, List.map_cons, List.map_nil, hs, hx, hr]
  exact hK _ _ h
theorem own_down {B B' : Nat} {w : World} {v : Value} {l : List Int} (h : OwnL kInt B w v l) (hb : B' ≤ B) : OwnL kInt B' w v l := by
  rcases own_iblk h with ⟨rfl, rfl⟩ | ⟨g, c, sp, rfl, hB, hk, h1, h2, h3⟩
  · exact OwnL.nil
  · exact iblk_own hk (Nat.le_trans hb hB) h1 h2 h3

set_option maxHeartbeats 8000000 in
theorem uses_any {ok : Nat → Prop} {w : World} {va ve : Value} {A : List Int} {E : List Pu} (op k out n : Int) (hA : HInts ok w va A) (hE : HPu ok w ve E) (hAl : A.length ≤ 1000000) (hEl : E.length ≤ 1000000) :
    Calls Tryd.prog 8 #[.agg #[.int .i64 op, .int .i64 k, .int .i64 out, .int .i64 n, va, ve]] w fun e w' => ∃ v, e = .returned v ∧ OwnL kInt w.heap.size w' v (usesT A E) ∧ Below w.heap.size w w' := by
  obtain ⟨aA, cA, rfl, hA1, hA2, _⟩ := hA.at
  obtain ⟨aE, cE, rfl, hE1, hE2, _⟩ := hE.at
  have HA := hide hA
  have HE := hide hE
  clear hA hE
  obtain ⟨W, hW⟩ : ∃ W, W = w.alloc (.cells #[.int .i64 op, .int .i64 k, .int .i64 out, .int .i64 n, .slice aA A.length cA, .slice aE E.length cE] 25 (0, 0)) := ⟨_, rfl⟩
  have bA : Below w.heap.size w W := by rw [hW]; exact (Below.refl _ _).alloc (Nat.le_refl _) _
  have KA : W.heap[w.heap.size]? = some (.cells #[.int .i64 op, .int .i64 k, .int .i64 out, .int .i64 n, .slice aA A.length cA, .slice aE E.length cE] 25 (0, 0)) := by rw [hW]; exact heap_new w _
  obtain ⟨i0, hi, hz0, hz1, hz2⟩ := info_parts kInt.info
  obtain ⟨M, hM⟩ : ∃ M, M = madeCells (Value.int .i64 0).cells ((A.length + E.length) * i0.size) := ⟨_, rfl⟩
  have hmk : ∀ V : World, (Instr.makeSlice 22 (.int .i64 0) (.int .i64 ((A.length : Int) + (E.length : Int)))).run Tryd.prog V = .ok (.slice (some ⟨V.heap.size, 0, none⟩) 0 (A.length + E.length)) (V.alloc (.cells M 3)) := fun V => by
    have h := run_make (P := Tryd.prog) V 22 3 i0 (.int .i64 0) Tryd.underlying22 hi hz0 .i64 .i64 0 ((A.length : Int) + (E.length : Int)) (by omega) (by omega) (by rw [hz2]; simp [kInt]; omega) (by omega)
    have e : ((A.length : Int) + (E.length : Int)).toNat = A.length + E.length := by omega
    simpa [hM, e] using h
  have hMs : M.size = A.length + E.length := by rw [hM, hz1]; simp [madeCells, kInt, Value.cells]
  clear hM
  go_enter Tryd.func8, Tryd.ntmps8
  go_upto_region 1 with fail
  rw [← hW]
  clear hW
  have d4 := cell_of KA 4
  have d5 := cell_of KA 5
  simp at d4 d5
  go_upto_region 2 with fail
  obtain ⟨w1, hw1⟩ : ∃ w1, w1 = (W.alloc (.cells M 3 (0, 0))) := ⟨_, rfl⟩
  have b1 : Below W.heap.size W w1 := by rw [hw1]; exact ((Below.refl _ _).alloc (Nat.le_refl _) _)
  have K1 : w1.heap[W.heap.size]? = some (.cells M 3 (0, 0)) := by rw [hw1]; exact heap_new W (.cells M 3 (0, 0))
  rw [← hw1]
  clear hw1 hmk hi hz0 hz1 hz2 d4 d5
  have KB := (b1.block _ (lt_of KA)).trans KA
  have hWs : w.heap.size + 1 ≤ W.heap.size := lt_of KA
  have o1 : OwnL kInt (w.heap.size + 1) w1 (.slice (some ⟨W.heap.size, 0, none⟩) 0 (A.length + E.length)) [] := by
    have hK1 : IBlk w1 W.heap.size [] M.toList := by unfold IBlk; rw [K1]; simp [ics]
    exact iblk_own (l := []) hK1 hWs (Nat.zero_le _) (by unfold maxLen; omega) (by simp [hMs])
  clear K1
  have bW := bA.trans (b1.mono bA.size)
  obtain ⟨v2, w2, r2, o2, b2, g2⟩ := run_cat (ty := 22) (w := w1) o1 (HA.out.under bW) (by have := b1.size; omega) (by simp; omega)
  have d4 := cell_of KB 4
  simp at d4
  go_upto_region 3 with (at_builtin; refine wpList_cat rfl _ _ rfl _ _ _ (by rfl) (by rfl) r2 ?_)
  have KC : w2.heap[w.heap.size]? = some (.cells #[.int .i64 op, .int .i64 k, .int .i64 out, .int .i64 n, .slice aA A.length cA, .slice aE E.length cE] 25 (0, 0)) := (b2.block _ (Nat.lt_succ_self _)).trans KB
  clear d4 r2 g2
  have bX : Below w.heap.size w w2 := bW.trans (b2.mono (Nat.le_succ _))
  rw [List.nil_append] at o2
  clear b2 o1 bW bA b1 KB KA hMs
  have c5 := cell_of KC 5
  simp at c5
  go_wp2_with fail
  clear c5
  go_loopg [3, 5, 21] E.length (fun gh s3 _ s21 wr => ∃ i : Nat, s21 = .int .i64 (i : Int) ∧ i ≤ E.length ∧ E.length ≤ gh + i ∧ Hid (OwnL kInt (w.heap.size + 1) wr s3 (usesL A (E.take i))) ∧ Below w.heap.size w wr ∧ wr.heap[w.heap.size]? = some (.cells #[.int .i64 op, .int .i64 k, .int .i64 out, .int .i64 n, .slice aA A.length cA, .slice aE E.length cE] 25 (0, 0)))
  case atStart => exact ⟨0, rfl, by omega, by omega, hide (by simpa [usesL] using o2), bX, KC⟩
  case round =>
    clear o2 bX KC
    obtain ⟨i, rfl, his, hgi, HO, bR, K⟩ := hrel
    have yR := bR.size
    have yK := lt_of K
    by_cases hlt : i < E.length
    case neg =>
      have hge : ¬ (i : Int) < (E.length : Int) := by omega
      have hie : i = E.length := by omega
      have ho := HO.out
      rw [hie, List.take_length] at ho
      have hul := usesL_len A E
      have h16 := sort_any ho (by omega)
      go_wp2_with (first | (go_at_call 16; refine h16.mono ?_; rintro e w3 ⟨rfl, o3, b3⟩))
      have h17 := compact_any o3 (by rw [List.length_mergeSort]; omega)
      go_wp2_with (first | (go_at_call 17; refine h17.mono ?_; rintro e w4 ⟨v4, rfl, o4, b4⟩))
      go_ret
      refine ⟨_, rfl, ?_, bR.trans ((b3.trans b4).mono (Nat.le_succ _))⟩
      exact own_down o4 (Nat.le_succ _)
    case pos =>
      have hltI : (i : Int) < (E.length : Int) := by omega
      obtain ⟨ao', cap', ev, _, _, hatR⟩ := (HE.out.under bR).at
      injection ev with ev1 ev2 ev3
      subst ev1
      obtain ⟨b, o, rfl, hb, c0, c1, c2, c3⟩ := hatR i hlt
      clear hatR ev2 ev3
      have HS := hide (usesL_step A E i hlt)
      have hul := usesL_len A (E.take i)
      rw [List.length_take, Nat.min_eq_left his] at hul
      generalize E[i] = p at c0 c1 c2 c3 HS
      have hcall := namesVariable_any p
      go_upto_region 6 with fail
      obtain ⟨wA, hwA⟩ : ∃ wA, wA = wr.alloc (.cells #[.int .i64 p.op, .int .i64 p.k, .int .i64 p.v, .int .i64 p.n] 36 (0, 0)) := ⟨_, rfl⟩
      have bA : Below wr.heap.size wr wA := by rw [hwA]; exact (Below.refl _ _).alloc (Nat.le_refl _) _
      have KA : wA.heap[wr.heap.size]? = some (.cells #[.int .i64 p.op, .int .i64 p.k, .int .i64 p.v, .int .i64 p.n] 36 (0, 0)) := by rw [hwA]; exact heap_new _ _
      rw [← hwA]
      clear hwA c0 c1 c2 c3
      have d0 := cell_of KA 0
      have d1 := cell_of KA 1
      have d2 := cell_of KA 2
      have d3 := cell_of KA 3
      simp at d0 d1 d2 d3
      cases hn : nmd p with
      | false =>
        rw [hn] at HS
        simp only [Bool.false_eq_true, if_false, List.append_nil] at HS
        have hc := hcall wA
        rw [hn] at hc
        go_wp2_with (go_at_call 15; refine hc.mono ?_; rintro e w' ⟨rfl, b5⟩)
        go_roundg (gk - 1)
        case measure => omega
        case rel => exact ⟨i + 1, by go_num, by omega, by omega, hide (by rw [HS.out]; exact (HO.out.below bA).below b5), bR.trans ((bA.trans (b5.mono bA.size)).mono yR), (b5.block _ (by have := bA.size; omega)).trans ((bA.block _ yK).trans K)⟩
      | true =>
        rw [hn] at HS
        simp only [if_true] at HS
        have hc := hcall wA
        rw [hn] at hc
        go_wp2_with fail
        refine hc.mono ?_
        rintro e w5 ⟨rfl, b5⟩
        clear d0 d1 d3
        go_upto_region 7 with fail
        have bB := bA.trans (b5.mono bA.size)
        have KB := (b5.block _ (lt_of KA)).trans KA
        clear d2
        have d2 := cell_of KB 2
        simp at d2
        have own := HO.out.below bB
        have hNb := fun k hk => (own.lt k hk).2
        have yB := bB.size
        have q1 : kInt.E (fun i => w5.heap.size ≤ i) w5 [.int .i64 p.v] p.v := rfl
        have q2 : ((usesL A (E.take i)).length + 1) * kInt.bytes ≤ 140737488355328 := by show ((usesL A (E.take i)).length + 1) * 8 ≤ _; omega
        have q3 : (usesL A (E.take i)).length + 1 ≤ maxLen := by unfold maxLen; omega
        have z1 : w.heap.size + 1 ≤ w5.heap.size := by omega
        go_wp2_with (at_builtin; refine wpList_more kInt rfl _ _ 22 3 rfl Tryd.underlying22 (w.heap.size + 1) w5.heap.size _ (usesL A (E.take i)) (by rfl) own [.int .i64 p.v] p.v q1 (by rfl) hNb z1 z1 q2 q3 ?_; intro v8 w8 own8 b8 _ _)
        go_roundg (gk - 1)
        case measure => omega
        case rel => exact ⟨i + 1, by go_num, by omega, by omega, hide (by rw [HS.out]; exact own8), (bR.trans (bB.mono yR)).trans (b8.mono (Nat.le_succ _)), (b8.block _ (Nat.lt_succ_self _)).trans ((bB.block _ yK).trans K)⟩
end Go.Proofs.YtfhjejmadhcmnaaDoor
