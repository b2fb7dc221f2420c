
/-
  DERIVED. A LONG CHAIN OF TESTS 'c == k1 || c == k2 || ..', link by link, whatever the frame holds besides.
-/
import Derived.Test.YtmgaeapckfdbpaaDoorM35
namespace Go.Proofs.YtmgaeapckfdbpaaDoor
open Go.RowKit Go.IntWalk
set_option linter.unusedVariables false
set_option linter.unusedSimpArgs false

theorem run_move (ρ : Operand → Value) (o : Oper) (x : Operand) (ho : o.op = .move x) (w : World) : (execOp ρ o).run Tryd.prog w = .ok (.value (ρ x)) w := by
  unfold execOp
  rw [ho]
  rfl

theorem run_assign (ρ : Operand → Value) (o : Oper) (x : Operand) (ho : o.op = .assign x) (w : World) : (execOp ρ o).run Tryd.prog w = .ok (.value (ρ x)) w := by
  unfold execOp
  rw [ho]
  rfl

theorem run_pick (ρ : Operand → Value) (o : Oper) (x y z : Operand) (b : Bool) (ho : o.op = .pick x y z) (hb : ρ x = .bool b) (w : World) : (execOp ρ o).run Tryd.prog w = .ok (.value (if b then ρ y else ρ z)) w := by
  unfold execOp
  rw [ho]
  simp [hb, go_sem]

theorem run_eql (ρ : Operand → Value) (o : Oper) (x : Nat) (c k : Int) (ho : o.op = .binOp .eql 5 (.tmp x) (.const (.int .u8 k)) 5) (hx : ρ (.tmp x) = .int .u8 c) (hk : ρ (.const (.int .u8 k)) = .int .u8 k) (w : World) :
    (execOp ρ o).run Tryd.prog w = .ok (.value (.bool (c == k))) w := by
  unfold execOp
  rw [ho]
  simp [hx, hk, go_sem, Tryd.underlying5]

/-- what a walk through the chain keeps: all slots but its own; and the slot that holds the answer so far -/
structure Kept (lo hi : Nat) (a0 a : Act) (z : Nat) (b : Bool) : Prop where
  size : a.tmps.size = a0.tmps.size
  defers : a.defers = a0.defers
  out : ∀ i, i < lo ∨ hi < i → a.tmps[i]? = a0.tmps[i]?
  ans : a.tmps[z]? = some (.bool b)

theorem put_get (a : Act) (d : Nat) (v : Value) (i : Nat) (h : i ≠ d) : (a.put (some d) v).tmps[i]? = a.tmps[i]? := by
  unfold Act.put
  simp [Array.getElem?_setIfInBounds]
  intro e
  exact absurd e.symm h

theorem put_same (a : Act) (d : Nat) (v : Value) (h : d < a.tmps.size) : (a.put (some d) v).tmps[d]? = some v := by
  unfold Act.put
  simp [Array.getElem?_setIfInBounds, h]

theorem put_size (a : Act) (d : Nat) (v : Value) : (a.put (some d) v).tmps.size = a.tmps.size := by
  unfold Act.put
  simp

theorem put_defers (a : Act) (d : Nat) (v : Value) : (a.put (some d) v).defers = a.defers := rfl

theorem eval_of {a : Act} {i : Nat} {v : Value} (h : a.tmps[i]? = some v) : a.eval (.tmp i) = v := by
  unfold Act.eval
  simp [Array.getD_eq_getD_getElem?, h]

/-- one link -/
theorem link {ops : Array Oper} {Q : Exit → Act → World → Prop} {rest : List Oper} {a0 a : Act} {w : World} {o1 o2 o3 o4 : Oper} {c : Int} {b : Bool} (lo hi s g z x1 x2 x3 x4 : Nat) (k : Int)
    (hs : a0.tmps[s]? = some (.int .u8 c)) (hslo : s < lo) (hhi : hi < a0.tmps.size)
    (p1 : o1.op = .move (.tmp s)) (p2 : o2.op = .binOp .eql 5 (.tmp x1) (.const (.int .u8 k)) 5) (p3 : o3.op = .pick (.tmp z) (.const (.bool true)) (.tmp x2)) (p4 : o4.op = .move (.tmp x3) ∨ o4.op = .assign (.tmp x3))
    (d1 : o1.dst = some x1) (d2 : o2.dst = some x2) (d3 : o3.dst = some x3) (d4 : o4.dst = some x4)
    (g1 : o1.guard = some (g, false)) (g2 : o2.guard = some (g, false)) (g3 : o3.guard = none) (g4 : o4.guard = none)
    (hg : (ops[g]?).bind (·.dst) = some z)
    (n1 : lo ≤ x1 ∧ x1 ≤ hi ∧ x1 ≠ z) (n2 : lo ≤ x2 ∧ x2 ≤ hi ∧ x2 ≠ z ∧ x2 ≠ x1) (n3 : lo ≤ x3 ∧ x3 ≤ hi) (n4 : lo ≤ x4 ∧ x4 ≤ hi) 
    (hK : Kept lo hi a0 a z b)
    (h : ∀ a', Kept lo hi a0 a' x4 (b || c == k) → wpList Tryd.prog ops Q rest a' w) : wpList Tryd.prog ops Q (o1 :: o2 :: o3 :: o4 :: rest) a w := by
  have hsz : hi < a.tmps.size := by rw [hK.size]; exact hhi
  have hes : a.tmps[s]? = some (.int .u8 c) := by rw [hK.out s (Or.inl hslo)]; exact hs
  have hy : ∀ a' : Act, a'.tmps[z]? = some (.bool b) → yielded ops a'.tmps g = some b := by
    intro a' h'
    unfold yielded
    rw [hg]
    simp [h']
  -- the tail: from the pick on
  have tail : ∀ a2 : Act, a2.tmps.size = a0.tmps.size → a2.defers = a0.defers → (∀ i, i < lo ∨ hi < i → a2.tmps[i]? = a0.tmps[i]?) → a2.tmps[z]? = some (.bool b) → (b = false → a2.tmps[x2]? = some (.bool (c == k))) →
      wpList Tryd.prog ops Q (o3 :: o4 :: rest) a2 w := by
    intro a2 s2 f2 u2 z2 e2
    refine wpList_plain g3 fun K hKK => ?_
    show Oper.upon _ _ _ _ _ ((execOp a2.eval o3).run Tryd.prog w)
    rw [run_pick a2.eval o3 _ _ _ b p3 (eval_of z2), Oper.upon_value, d3]
    have hv : (if b then a2.eval (.const (.bool true)) else a2.eval (.tmp x2)) = .bool (b || c == k) := by
      cases b
      · simp [eval_of (e2 rfl)]
      · rfl
    rw [hv]
    apply hKK
    refine wpList_plain g4 fun K' hK' => ?_
    show Oper.upon _ _ _ _ _ ((execOp (a2.put (some x3) (.bool (b || c == k))).eval o4).run Tryd.prog w)
    have hx3 : (a2.put (some x3) (.bool (b || c == k))).eval (.tmp x3) = .bool (b || c == k) := eval_of (put_same _ _ _ (by omega))
    have hrun : (execOp (a2.put (some x3) (.bool (b || c == k))).eval o4).run Tryd.prog w = .ok (.value (.bool (b || c == k))) w := by
      rcases p4 with p4 | p4
      · rw [run_move _ o4 _ p4, hx3]
      · rw [run_assign _ o4 _ p4, hx3]
    rw [hrun, Oper.upon_value, d4]
    apply hK'
    apply h
    refine ⟨by rw [put_size, put_size, s2], by rw [put_defers, put_defers, f2], ?_, put_same _ _ _ (by rw [put_size]; omega)⟩
    intro i hi'
    rw [put_get _ _ _ _ (by omega), put_get _ _ _ _ (by omega)]
    exact u2 i hi'
  cases b with
  | true =>
    refine wpList_step fun K hKK => ?_
    rw [if_neg (by unfold Region.wanted; rw [g1]; simp [hy a hK.ans]), d1]
    apply hKK
    refine wpList_step fun K' hK' => ?_
    have z1 : (a.put (some x1) undef).tmps[z]? = some (.bool true) := by rw [put_get _ _ _ _ (by omega)]; exact hK.ans
    rw [if_neg (by unfold Region.wanted; rw [g2]; simp [hy _ z1]), d2]
    apply hK'
    apply tail
    · rw [put_size, put_size]; exact hK.size
    · rw [put_defers, put_defers]; exact hK.defers
    · intro i hi'
      rw [put_get _ _ _ _ (by omega), put_get _ _ _ _ (by omega)]
      exact hK.out i hi'
    · rw [put_get _ _ _ _ (by omega)]; exact z1
    · intro e; cases e
  | false =>
    refine wpList_step fun K hKK => ?_
    rw [if_pos (by unfold Region.wanted; rw [g1]; simp [hy a hK.ans])]
    show Oper.upon _ _ _ _ _ ((execOp a.eval o1).run Tryd.prog w)
    rw [run_move _ o1 _ p1, eval_of hes, Oper.upon_value, d1]
    apply hKK
    refine wpList_step fun K' hK' => ?_
    have z1 : (a.put (some x1) (.int .u8 c)).tmps[z]? = some (.bool false) := by rw [put_get _ _ _ _ (by omega)]; exact hK.ans
    rw [if_pos (by unfold Region.wanted; rw [g2]; simp [hy _ z1])]
    show Oper.upon _ _ _ _ _ ((execOp (a.put (some x1) (.int .u8 c)).eval o2).run Tryd.prog w)
    rw [run_eql _ o2 x1 c k p2 (eval_of (put_same _ _ _ (by omega))) rfl, Oper.upon_value, d2]
    apply hK'
    apply tail
    · rw [put_size, put_size]; exact hK.size
    · rw [put_defers, put_defers]; exact hK.defers
    · intro i hi'
      rw [put_get _ _ _ _ (by omega), put_get _ _ _ _ (by omega)]
      exact hK.out i hi'
    · rw [put_get _ _ _ _ (by omega)]; exact z1
    · intro _
      exact put_same _ _ _ (by rw [put_size]; omega)

/-- the first test of the chain -/
theorem chain_head {ops : Array Oper} {Q : Exit → Act → World → Prop} {rest : List Oper} {a0 : Act} {w : World} {o1 o2 o3 : Oper} {c : Int} (lo hi s x1 x2 x3 : Nat) (k : Int)
    (hs : a0.tmps[s]? = some (.int .u8 c)) (hslo : s < lo) (hhi : hi < a0.tmps.size)
    (p1 : o1.op = .move (.tmp s)) (p2 : o2.op = .binOp .eql 5 (.tmp x1) (.const (.int .u8 k)) 5) (p3 : o3.op = .move (.tmp x2))
    (d1 : o1.dst = some x1) (d2 : o2.dst = some x2) (d3 : o3.dst = some x3)
    (g1 : o1.guard = none) (g2 : o2.guard = none) (g3 : o3.guard = none)
    (n1 : lo ≤ x1 ∧ x1 ≤ hi) (n2 : lo ≤ x2 ∧ x2 ≤ hi) (n3 : lo ≤ x3 ∧ x3 ≤ hi)
    (h : ∀ a', Kept lo hi a0 a' x3 (c == k) → wpList Tryd.prog ops Q rest a' w) : wpList Tryd.prog ops Q (o1 :: o2 :: o3 :: rest) a0 w := by
  refine wpList_plain g1 fun K hK => ?_
  show Oper.upon _ _ _ _ _ ((execOp a0.eval o1).run Tryd.prog w)
  rw [run_move _ o1 _ p1, eval_of hs, Oper.upon_value, d1]
  apply hK
  refine wpList_plain g2 fun K hK => ?_
  show Oper.upon _ _ _ _ _ ((execOp (a0.put (some x1) (.int .u8 c)).eval o2).run Tryd.prog w)
  rw [run_eql _ o2 x1 c k p2 (eval_of (put_same _ _ _ (by omega))) rfl, Oper.upon_value, d2]
  apply hK
  refine wpList_plain g3 fun K hK => ?_
  show Oper.upon _ _ _ _ _ ((execOp ((a0.put (some x1) (.int .u8 c)).put (some x2) (.bool (c == k))).eval o3).run Tryd.prog w)
  rw [run_move _ o3 _ p3, eval_of (put_same _ _ _ (by rw [put_size]; omega)), Oper.upon_value, d3]
  apply hK
  apply h
  refine ⟨by rw [put_size, put_size, put_size], by rw [put_defers, put_defers, put_defers], ?_, put_same _ _ _ (by rw [put_size, put_size]; omega)⟩
  intro i hi'
  rw [put_get _ _ _ _ (by omega), put_get _ _ _ _ (by omega), put_get _ _ _ _ (by omega)]

theorem name_act {p : Act → Prop} {a : Act} (h : ∀ a0, a0 = a → p a0) : p a := h a rfl

/-- the frame behind the chain: what was there, but for the chain's own slots -/
theorem kept_frame {lo hi : Nat} {a0 a : Act} {b : Bool} (hK : Kept lo hi a0 a lo b) (hlh : lo ≤ hi) (hhi : hi < a0.tmps.size) :
    ∃ rest : List Value, rest.length = hi - lo ∧ a = ⟨(a0.tmps.toList.take lo ++ (Value.bool b :: rest) ++ a0.tmps.toList.drop (hi + 1)).toArray, a0.defers⟩ := by
  have hl : a.tmps.toList.length = a0.tmps.toList.length := by simpa using hK.size
  have hl0 : hi < a0.tmps.toList.length := by simpa using hhi
  have hget : ∀ i, i < lo ∨ hi < i → a.tmps.toList[i]? = a0.tmps.toList[i]? := fun i h => by
    have := hK.out i h
    simpa using this
  have hans : a.tmps.toList[lo]? = some (.bool b) := by simpa using hK.ans
  refine ⟨(a.tmps.toList.drop (lo + 1)).take (hi - lo), ?_, ?_⟩
  · rw [List.length_take, List.length_drop]; omega
  · have key : a.tmps.toList = a0.tmps.toList.take lo ++ (Value.bool b :: (a.tmps.toList.drop (lo + 1)).take (hi - lo)) ++ a0.tmps.toList.drop (hi + 1) := by
      apply List.ext_getElem?
      intro i
      have hlt : (a0.tmps.toList.take lo).length = lo := by rw [List.length_take]; omega
      have hlm : (Value.bool b :: (a.tmps.toList.drop (lo + 1)).take (hi - lo)).length = hi - lo + 1 := by rw [List.length_cons, List.length_take, List.length_drop]; omega
      by_cases h1 : i < lo
      · rw [List.append_assoc, List.getElem?_append_left (by omega), List.getElem?_take_of_lt h1]
        exact hget i (Or.inl h1)
      · by_cases h2 : i ≤ hi
        · rw [List.append_assoc, List.getElem?_append_right (by omega), hlt, List.getElem?_append_left (by rw [hlm]; omega)]
          by_cases h3 : i = lo
          · subst h3
            rw [Nat.sub_self, hans]
            rfl
          · obtain ⟨j, rfl⟩ : ∃ j, i = lo + 1 + j := ⟨i - lo - 1, by omega⟩
            have e : lo + 1 + j - lo = j + 1 := by omega
            rw [e, List.getElem?_cons_succ, List.getElem?_take_of_lt (by omega), List.getElem?_drop]
        · rw [List.getElem?_append_right (by rw [List.length_append, hlt, hlm]; omega), List.length_append, hlt, hlm, List.getElem?_drop]
          have e : hi + 1 + (i - (lo + (hi - lo + 1))) = i := by omega
          rw [e]
          exact hget i (Or.inr (by omega))
    obtain ⟨tm, df⟩ := a
    have hd : df = a0.defers := hK.defers
    subst hd
    congr 1
    apply Array.toList_inj.1
    rw [List.toList_toArray]
    exact key

theorem split1 {n : Nat} : ∀ l : List Value, l.length = n + 1 → ∃ v l', l = v :: l' ∧ l'.length = n
  | [], h => by simp at h
  | v :: l', h => ⟨v, l', rfl, by simpa using h⟩

theorem split70 (l : List Value) (h : l.length = 70) : ∃ v1 v2 v3 v4 v5 v6 v7 v8 v9 v10 v11 v12 v13 v14 v15 v16 v17 v18 v19 v20 v21 v22 v23 v24 v25 v26 v27 v28 v29 v30 v31 v32 v33 v34 v35 v36 v37 v38 v39 v40 v41 v42 v43 v44 v45 v46 v47 v48 v49 v50 v51 v52 v53 v54 v55 v56 v57 v58 v59 v60 v61 v62 v63 v64 v65 v66 v67 v68 v69 v70, l = v1 :: v2 :: v3 :: v4 :: v5 :: v6 :: v7 :: v8 :: v9 :: v10 :: v11 :: v12 :: v13 :: v14 :: v15 :: v16 :: v17 :: v18 :: v19 :: v20 :: v21 :: v22 :: v23 :: v24 :: v25 :: v26 :: v27 :: v28 :: v29 :: v30 :: v31 :: v32 :: v33 :: v34 :: v35 :: v36 :: v37 :: v38 :: v39 :: v40 :: v41 :: v42 :: v43 :: v44 :: v45 :: v46 :: v47 :: v48 :: v49 :: v50 :: v51 :: v52 :: v53 :: v54 :: v55 :: v56 :: v57 :: v58 :: v59 :: v60 :: v61 :: v62 :: v63 :: v64 :: v65 :: v66 :: v67 :: v68 :: v69 :: v70 :: [] := by
  obtain ⟨v1, l1, e1, h1⟩ := split1 l h
  obtain ⟨v2, l2, e2, h2⟩ := split1 l1 h1
  obtain ⟨v3, l3, e3, h3⟩ := split1 l2 h2
  obtain ⟨v4, l4, e4, h4⟩ := split1 l3 h3
  obtain ⟨v5, l5, e5, h5⟩ := split1 l4 h4
  obtain ⟨v6, l6, e6, h6⟩ := split1 l5 h5
  obtain ⟨v7, l7, e7, h7⟩ := split1 l6 h6
  obtain ⟨v8, l8, e8, h8⟩ := split1 l7 h7
  obtain ⟨v9, l9, e9, h9⟩ := split1 l8 h8
  obtain ⟨v10, l10, e10, h10⟩ := split1 l9 h9
  obtain ⟨v11, l11, e11, h11⟩ := split1 l10 h10
  obtain ⟨v12, l12, e12, h12⟩ := split1 l11 h11
  obtain ⟨v13, l13, e13, h13⟩ := split1 l12 h12
  obtain ⟨v14, l14, e14, h14⟩ := split1 l13 h13
  obtain ⟨v15, l15, e15, h15⟩ := split1 l14 h14
  obtain ⟨v16, l16, e16, h16⟩ := split1 l15 h15
  obtain ⟨v17, l17, e17, h17⟩ := split1 l16 h16
  obtain ⟨v18, l18, e18, h18⟩ := split1 l17 h17
  obtain ⟨v19, l19, e19, h19⟩ := split1 l18 h18
  obtain ⟨v20, l20, e20, h20⟩ := split1 l19 h19
  obtain ⟨v21, l21, e21, h21⟩ := split1 l20 h20
  obtain ⟨v22, l22, e22, h22⟩ := split1 l21 h21
  obtain ⟨v23, l23, e23, h23⟩ := split1 l22 h22
  obtain ⟨v24, l24, e24, h24⟩ := split1 l23 h23
  obtain ⟨v25, l25, e25, h25⟩ := split1 l24 h24
  obtain ⟨v26, l26, e26, h26⟩ := split1 l25 h25
  obtain ⟨v27, l27, e27, h27⟩ := split1 l26 h26
  obtain ⟨v28, l28, e28, h28⟩ := split1 l27 h27
  obtain ⟨v29, l29, e29, h29⟩ := split1 l28 h28
  obtain ⟨v30, l30, e30, h30⟩ := split1 l29 h29
  obtain ⟨v31, l31, e31, h31⟩ := split1 l30 h30
  obtain ⟨v32, l32, e32, h32⟩ := split1 l31 h31
  obtain ⟨v33, l33, e33, h33⟩ := split1 l32 h32
  obtain ⟨v34, l34, e34, h34⟩ := split1 l33 h33
  obtain ⟨v35, l35, e35, h35⟩ := split1 l34 h34
  obtain ⟨v36, l36, e36, h36⟩ := split1 l35 h35
  obtain ⟨v37, l37, e37, h37⟩ := split1 l36 h36
  obtain ⟨v38, l38, e38, h38⟩ := split1 l37 h37
  obtain ⟨v39, l39, e39, h39⟩ := split1 l38 h38
  obtain ⟨v40, l40, e40, h40⟩ := split1 l39 h39
  obtain ⟨v41, l41, e41, h41⟩ := split1 l40 h40
  obtain ⟨v42, l42, e42, h42⟩ := split1 l41 h41
  obtain ⟨v43, l43, e43, h43⟩ := split1 l42 h42
  obtain ⟨v44, l44, e44, h44⟩ := split1 l43 h43
  obtain ⟨v45, l45, e45, h45⟩ := split1 l44 h44
  obtain ⟨v46, l46, e46, h46⟩ := split1 l45 h45
  obtain ⟨v47, l47, e47, h47⟩ := split1 l46 h46
  obtain ⟨v48, l48, e48, h48⟩ := split1 l47 h47
  obtain ⟨v49, l49, e49, h49⟩ := split1 l48 h48
  obtain ⟨v50, l50, e50, h50⟩ := split1 l49 h49
  obtain ⟨v51, l51, e51, h51⟩ := split1 l50 h50
  obtain ⟨v52, l52, e52, h52⟩ := split1 l51 h51
  obtain ⟨v53, l53, e53, h53⟩ := split1 l52 h52
  obtain ⟨v54, l54, e54, h54⟩ := split1 l53 h53
  obtain ⟨v55, l55, e55, h55⟩ := split1 l54 h54
  obtain ⟨v56, l56, e56, h56⟩ := split1 l55 h55
  obtain ⟨v57, l57, e57, h57⟩ := split1 l56 h56
  obtain ⟨v58, l58, e58, h58⟩ := split1 l57 h57
  obtain ⟨v59, l59, e59, h59⟩ := split1 l58 h58
  obtain ⟨v60, l60, e60, h60⟩ := split1 l59 h59
  obtain ⟨v61, l61, e61, h61⟩ := split1 l60 h60
  obtain ⟨v62, l62, e62, h62⟩ := split1 l61 h61
  obtain ⟨v63, l63, e63, h63⟩ := split1 l62 h62
  obtain ⟨v64, l64, e64, h64⟩ := split1 l63 h63
  obtain ⟨v65, l65, e65, h65⟩ := split1 l64 h64
  obtain ⟨v66, l66, e66, h66⟩ := split1 l65 h65
  obtain ⟨v67, l67, e67, h67⟩ := split1 l66 h66
  obtain ⟨v68, l68, e68, h68⟩ := split1 l67 h67
  obtain ⟨v69, l69, e69, h69⟩ := split1 l68 h68
  obtain ⟨v70, l70, e70, h70⟩ := split1 l69 h69
  have e71 : l70 = [] := List.length_eq_zero_iff.1 h70
  exact ⟨v1, v2, v3, v4, v5, v6, v7, v8, v9, v10, v11, v12, v13, v14, v15, v16, v17, v18, v19, v20, v21, v22, v23, v24, v25, v26, v27, v28, v29, v30, v31, v32, v33, v34, v35, v36, v37, v38, v39, v40, v41, v42, v43, v44, v45, v46, v47, v48, v49, v50, v51, v52, v53, v54, v55, v56, v57, v58, v59, v60, v61, v62, v63, v64, v65, v66, v67, v68, v69, v70, by rw [e1, e2, e3, e4, e5, e6, e7, e8, e9, e10, e11, e12, e13, e14, e15, e16, e17, e18, e19, e20, e21, e22, e23, e24, e25, e26, e27, e28, e29, e30, e31, e32, e33, e34, e35, e36, e37, e38, e39, e40, e41, e42, e43, e44, e45, e46, e47, e48, e49, e50, e51, e52, e53, e54, e55, e56, e57, e58, e59, e60, e61, e62, e63, e64, e65, e66, e67, e68, e69, e70, e71]⟩

theorem signs_or (c : UInt8) : (((((((((((((((((((c.toNat : Int) == 40) || (c.toNat : Int) == 41) || (c.toNat : Int) == 123) || (c.toNat : Int) == 125) || (c.toNat : Int) == 91) || (c.toNat : Int) == 93) || (c.toNat : Int) == 60) || (c.toNat : Int) == 62) || (c.toNat : Int) == 44) || (c.toNat : Int) == 59) || (c.toNat : Int) == 58) || (c.toNat : Int) == 43) || (c.toNat : Int) == 45) || (c.toNat : Int) == 42) || (c.toNat : Int) == 47) || (c.toNat : Int) == 37) || (c.toNat : Int) == 61) || (c.toNat : Int) == 94) = Tk.isS c := by
  rw [show ((c.toNat : Int) == 40) = (c == 40) from byte_int c 40 (by decide)]
  rw [show ((c.toNat : Int) == 41) = (c == 41) from byte_int c 41 (by decide)]
  rw [show ((c.toNat : Int) == 123) = (c == 123) from byte_int c 123 (by decide)]
  rw [show ((c.toNat : Int) == 125) = (c == 125) from byte_int c 125 (by decide)]
  rw [show ((c.toNat : Int) == 91) = (c == 91) from byte_int c 91 (by decide)]
  rw [show ((c.toNat : Int) == 93) = (c == 93) from byte_int c 93 (by decide)]
  rw [show ((c.toNat : Int) == 60) = (c == 60) from byte_int c 60 (by decide)]
  rw [show ((c.toNat : Int) == 62) = (c == 62) from byte_int c 62 (by decide)]
  rw [show ((c.toNat : Int) == 44) = (c == 44) from byte_int c 44 (by decide)]
  rw [show ((c.toNat : Int) == 59) = (c == 59) from byte_int c 59 (by decide)]
  rw [show ((c.toNat : Int) == 58) = (c == 58) from byte_int c 58 (by decide)]
  rw [show ((c.toNat : Int) == 43) = (c == 43) from byte_int c 43 (by decide)]
  rw [show ((c.toNat : Int) == 45) = (c == 45) from byte_int c 45 (by decide)]
  rw [show ((c.toNat : Int) == 42) = (c == 42) from byte_int c 42 (by decide)]
  rw [show ((c.toNat : Int) == 47) = (c == 47) from byte_int c 47 (by decide)]
  rw [show ((c.toNat : Int) == 37) = (c == 37) from byte_int c 37 (by decide)]
  rw [show ((c.toNat : Int) == 61) = (c == 61) from byte_int c 61 (by decide)]
  rw [show ((c.toNat : Int) == 94) = (c == 94) from byte_int c 94 (by decide)]
  simp only [Tk.isS, Tk.signs, List.any_cons, List.any_nil, Bool.or_false, Bool.or_assoc]
  have hc : ∀ x : UInt8, (x == c) = (c == x) := fun x => by rw [Bool.eq_iff_iff, beq_iff_eq, beq_iff_eq]; exact eq_comm
  simp only [hc]

end Go.Proofs.YtmgaeapckfdbpaaDoor
