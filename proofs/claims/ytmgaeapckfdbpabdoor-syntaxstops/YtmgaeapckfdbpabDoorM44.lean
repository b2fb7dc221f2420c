/-
  DERIVED. THE WALK of SyntaxStops.
-/
import Derived.Test.YtmgaeapckfdbpabDoorM37
import Derived.Test.YtmgaeapckfdbpabDoorM29
import Derived.Test.YtmgaeapckfdbpabDoorRefScan
import Derived.Test.YtmgaeapckfdbpabDoorStop
import Derived.Test.YtmgaeapckfdbpabDoorPg4
import Derived.Test.YtmgaeapckfdbpabDoorRows
import Derived.Lib.LaidTab
import Derived.FnData
namespace Go.Proofs.YtmgaeapckfdbpabDoor
open Go.RowKit Go.IntWalk
set_option linter.unusedVariables false
set_option linter.unusedSimpArgs false
set_option maxRecDepth 100000

theorem glob_below {w w' : World} (h : GlobT w) (b : Below w.heap.size w w') : GlobT w' := h.keep b.size (b.block 1 h.1)
theorem nds_len {ok : Nat → Prop} {w : World} {a : Option Addr} {n c : Nat} {l : List Nd} (h : HNds ok w (.slice a n c) l) : n = l.length ∧ n ≤ c ∧ c ≤ maxLen := by
  obtain ⟨C, ⟨ao, cap, hv, h1, h2, _⟩, _⟩ := h
  injection hv with e1 e2 e3
  subst e1 e2 e3
  exact ⟨rfl, h1, h2⟩
theorem extract_take (s : ByteArray) (n : Nat) : (s.extract 0 n).data.toList = s.data.toList.take n := by
  simp

theorem at_ok (cut : Int) (pl : Nat) (h : pl ≤ 6000) : ∃ q : Nat, wrap64 ((IntKind.u64.wrap cut).tmod ((pl : Int) + 1)) = (q : Int) ∧ q ≤ pl := by
  have h0 : 0 ≤ IntKind.u64.wrap cut := by simp [IntKind.wrap, IntKind.signed, IntKind.bits]; omega
  rw [Int.tmod_eq_emod_of_nonneg h0]
  have h1 := Int.emod_nonneg (IntKind.u64.wrap cut) (b := (pl : Int) + 1) (by omega)
  have h2 := Int.emod_lt_of_pos (IntKind.u64.wrap cut) (b := (pl : Int) + 1) (by omega)
  generalize IntKind.u64.wrap cut % ((pl : Int) + 1) = r at *
  refine ⟨r.toNat, ?_, by omega⟩
  unfold wrap64
  omega

set_option maxHeartbeats 8000000 in
theorem stops_walk (s : ByteArray) (cut : Int) (hs : s.size ≤ maxLen) (w : World) (hG : GlobT w) :
    Calls Tryd.prog 3 #[.string s, .int .i64 cut] w fun e w' => e = .returned (.bool true) ∧ Below w.heap.size w w' := by
  unfold maxLen at hs
  by_cases h0 : s.size = 0
  · go_enter Tryd.func3, Tryd.ntmps3
    go_wp2_with (go_at_call 4; refine (begun_any _).mono ?_; rintro e w' ⟨rfl, hb⟩)
    go_ret
    exact ⟨rfl, hb⟩
  · by_cases h6 : 6000 < s.size
    · go_enter Tryd.func3, Tryd.ntmps3
      go_wp2_with (go_at_call 4; refine (begun_any _).mono ?_; rintro e w' ⟨rfl, hb⟩)
      go_ret
      exact ⟨rfl, hb⟩
    · have d0 : ((s.size : Int) == 0) = false := beq_eq_false_iff_ne.2 (by omega)
      have d6 : decide ((6000 : Int) < (s.size : Int)) = false := by simp; omega
      have hcutM := parse_cut s.data.toList
      obtain ⟨P, hP⟩ : ∃ P, P = parseT s.data.toList := ⟨_, rfl⟩
      rw [← hP] at hcutM
      have HP := hide hP
      clear hP
      obtain ⟨LP, cP, aP⟩ := P
      have HC := hide hcutM
      clear hcutM
      go_enter Tryd.func3, Tryd.ntmps3
      go_wp2_with (go_at_call 4; refine (begun_any _).mono ?_; rintro e w0 ⟨rfl, b0⟩)
      have G0 := glob_below hG b0
      refine (parse_all s w0 (by omega) G0).mono ?_
      rintro r w1 ⟨b1, a1, n1, c1, he, hN1⟩
      rw [← HP.out] at he hN1
      subst he
      obtain ⟨e1, k1, m1⟩ := nds_len hN1
      subst e1
      have B1 := b0.trans (b1.mono b0.size)
      have G1 := glob_below hG B1
      unfold maxLen at m1
      clear b0 b1 hN1 G0
      by_cases hc : cP = 0
      · subst hc
        go_wp2_with fail
        refine (refScan_any s _ (by omega)).mono ?_
        rintro r w2 ⟨v2, rfl, hown2, b2⟩
        have hne := (HC.out 0 trivial (fun _ => Nat.zero_le _)).1
        obtain ⟨L, hL⟩ : ∃ L, L = (Tk.scan s.data.toList).1 := ⟨_, rfl⟩
        rw [← hL] at hown2 hne
        have hpl : ∀ (h : L ≠ []), (L.getLast h).place ≤ s.size := by
          intro h
          have h1 := (HC.out 0 trivial (fun _ => Nat.zero_le _)).2.1
          have h2 := Tk.chain_place _ _ _ (Tk.scan_chain _ h1) (L.getLast h) (by rw [← hL]; exact List.getLast_mem h)
          rw [← Lib.size_eq] at h2
          exact h2
        obtain ⟨k, hk⟩ : ∃ k, L.length = k + 1 := ⟨L.length - 1, by have := List.length_pos_iff.2 hne; omega⟩
        obtain ⟨ao2, g, cap2, rfl, c2, m2, T2⟩ := toks_slice hown2
        obtain ⟨rfl, g1, g2, hT⟩ := T2 (by omega)
        have hcell := (hT k (by omega)).2.1
        obtain ⟨pl, hpe⟩ : ∃ pl, pl = (L[k]'(by omega)).place := ⟨_, rfl⟩
        rw [← hpe] at hcell
        have hlast : L.getLast hne = L[k]'(by omega) := by
          rw [List.getLast_eq_getElem]
          congr 1
          omega
        have hps : pl ≤ s.size := by have := hpl hne; rw [hlast, ← hpe] at this; exact this
        have HL : Hid (∀ n, n ≤ pl → ((parseT (List.take n s.data.toList)).2.1 = 0 → (parseT (List.take n s.data.toList)).1.length < LP.length) ∧ ((parseT (List.take n s.data.toList)).2.1 ≠ 0 → 0 ≤ (parseT (List.take n s.data.toList)).2.2 ∧ (parseT (List.take n s.data.toList)).2.2 ≤ (List.take n s.data.toList).length ∧ (parseT (List.take n s.data.toList)).1 = [])) := by
          intro n hn
          refine (HC.out n trivial (fun hl => ?_)).2.2
          have e2 : (Tk.scan s.data.toList).1.getLast hl = L.getLast hne := by simp only [hL]
          rw [e2, hlast, ← hpe]
          exact hn
        rw [hk] at c2 ⊢
        unfold maxLen at m2
        clear hT T2 hlast hpe hpl hne hown2 HC hL
        obtain ⟨q, hq, hqp⟩ := at_ok cut pl (by omega)
        have HQ := hide hq
        clear hq
        have hqs : q ≤ s.size := by omega
        have hLQ := HL.out q hqp
        have hlen : (List.take q s.data.toList).length = q := by rw [List.length_take, ← Lib.size_eq]; omega
        rw [hlen] at hLQ
        obtain ⟨Q, hQe⟩ : ∃ Q, Q = parseT (List.take q s.data.toList) := ⟨_, rfl⟩
        rw [← hQe] at hLQ
        have HQE := hide hQe
        clear hQe HL hlen
        obtain ⟨LQ, cQ, aQ⟩ := Q
        simp only at hLQ
        have HLQ := hide hLQ
        clear hLQ
        have z2 := b2.size
        simp at z2
        have hP2 := (aside b2 (S := [])).keep (keep_alloc (heap_new w1 (.cells #[.slice a1 LP.length c1] 25 (0, 0))) (.cells #[.int .i64 0, .int .i64 aP] 27 (0, 0))) (by simp; omega) (by simp)
        have y1 := B1.size
        have B2 : Below w.heap.size w w2 := by
          have q1 := B1.alloc y1 (.cells #[.slice a1 LP.length c1] 25 (0, 0))
          have q2 := q1.alloc (by simp; omega) (.cells #[.int .i64 0, .int .i64 aP] 27 (0, 0))
          exact q2.trans (b2.mono (by simp; omega))
        have y2 := B2.size
        clear b2
        go_upto_region 10 with fail
        rw [HQ.out]
        go_wp2_with fail
        have hsx : (s.extract 0 q).size ≤ 1000000 := by simp; omega
        refine (parse_all (s.extract 0 q) _ hsx ((glob_below hG B2).keep (by simp) (Below.heap_alloc _ _ _ (Nat.lt_of_lt_of_le hG.1 B2.size)))).mono ?_
        rintro r w3 ⟨b3, a3, n3, c3, he3, hN3⟩
        rw [extract_take, ← HQE.out] at he3 hN3
        subst he3
        obtain ⟨e3, k3, m3⟩ := nds_len hN3
        subst e3
        unfold maxLen at m3
        have z3 := b3.size
        simp at z3
        have hP3 := (aside b3 (S := [])).keep (keep_alloc hP2 _) (by simp; omega) (by simp)
        have p3 := cell_of hP3 0
        simp at p3
        have B3 : Below w.heap.size w w3 := (B2.alloc y2 _).trans (b3.mono (by simp; omega))
        have z13 : w1.heap.size < w3.heap.size := by omega
        have y3 := B3.size
        clear b3 hN3 hP2 hP3
        by_cases hcq : cQ = 0
        · subst hcq
          have hlt := (HLQ.out).1 rfl
          have hd : decide ((LQ.length : Int) < (LP.length : Int)) = true := by simpa using hlt
          go_wp2
          go_ret
          exact ⟨rfl, (B3.alloc y3 _).alloc (by simp; omega) _⟩
        · obtain ⟨u1, u2, u3⟩ := (HLQ.out).2 hcq
          subst u3
          have hcb : (cQ == 0) = false := by simpa using hcq
          go_wp2
          go_ret
          exact ⟨rfl, (B3.alloc y3 _).alloc (by simp; omega) _⟩
      · have hcb : (cP == 0) = false := by simpa using hc
        go_wp2
        go_ret
        exact ⟨rfl, (B1.alloc B1.size _).alloc (by have := B1.size; simp; omega) _⟩
end Go.Proofs.YtmgaeapckfdbpabDoor


/-
  DERIVED. From the row's condition to the table of operators.
-/
namespace Go.Proofs.YtmgaeapckfdbpabDoor
open Go.RowKit Go.IntWalk
set_option linter.unusedVariables false

theorem cells_of_strs {H : Type} {enc : TypeId × Value → H} {P : Program} {w : World} {base : Nat} {sp : Nat → Bool} {held : Bool} {fuel : Nat} {t e : TypeId} {n : Nat} {cs : List Value} {zs : List (List UInt8)} {p : List MemPlace}
    (ht : P.underlying t = some (.array n e)) (he : P.underlying e = some .string) (hce : P.cellsOf e = 1) (hct : P.cellsOf t = n)
    (h : DataW.trod enc P w base sp held fuel t cs = some (.agg (zs.map fun z => .lit (.string z)), p)) : cs = zs.map fun z => Value.string (str z) := by
  cases fuel with
  | zero => simp [DataW.trod] at h
  | succ fuel =>
    simp only [DataW.trod, ht, hce, hct, Nat.mul_one] at h
    split at h
    · rename_i hl
      obtain ⟨xs, hm, hx⟩ := Option.map_eq_some_iff.1 h
      have hxs : xs.map (·.1) = zs.map fun z => (DataW.lit (.string z) : DataW H) := by
        have := congrArg Prod.fst hx
        simpa using this
      have hxl : xs.length = n := by simpa using Lib.mapM_length hm
      have hzl : zs.length = n := by
        have := congrArg List.length hxs
        simp at this
        omega
      apply List.ext_getElem?
      intro i
      by_cases hi : i < n
      · obtain ⟨b, hb, hf⟩ := Lib.mapM_at hm i i (by simp [hi])
        obtain ⟨s, hc, rfl, _⟩ := DataW.trod_string he hf
        have h1 : cs[i]? = some (.string s) := by
          have := congrArg (·[0]?) hc
          simpa [List.getElem?_take, List.getElem?_drop] using this
        have h2 : (xs.map (·.1))[i]? = some (DataW.lit (.string s.data.toList) : DataW H) := by simp [hb]
        rw [hxs] at h2
        simp only [List.getElem?_map, Option.map_eq_some_iff, DataW.lit.injEq, Lit.string.injEq] at h2
        obtain ⟨z', hz', rfl⟩ := h2
        simp [h1, hz', str]
      · rw [List.getElem?_eq_none (by omega), List.getElem?_eq_none (by simp; omega)]
    · cases h

theorem glob_of_laid {W : World} (h : laidMetH Tryd.prog [("loomwork/syntax.operators", Rows.laid_loomwork_syntax_operators)] W) : GlobT W := by
  have h : laidMet Tryd.prog [("loomwork/syntax.operators", Rows.laid_loomwork_syntax_operators)] W := h
  obtain ⟨ps, ⟨g', t', cs, fuel, p, q, hg', ht', hvar, hd, _, _⟩, _⟩ := h
  obtain rfl := Option.some.inj ((show Tryd.prog.globalNamed "loomwork/syntax.operators" = some 1 by kernel_rfl).symm.trans hg')
  obtain rfl := Option.some.inj ((show (Tryd.prog.globals[1]?).map (·.type) = some 105 by kernel_rfl).symm.trans ht')
  have hcs := cells_of_strs (zs := Ps.words) Tryd.underlying105 Tryd.underlying9 (by kernel_rfl) (by kernel_rfl) hd
  have hc : ∀ j (h : j < Ps.words.length), W.cell? ⟨1, j, none⟩ = some (.string (str Ps.words[j])) := by
    intro j hj
    have := World.var?_cell (show Tryd.prog.globalNamed "loomwork/syntax.operators" = some 1 by kernel_rfl) hvar j
    rw [this, ← Array.getElem?_toList, hcs]
    simp [hj]
  refine ⟨?_, hc⟩
  have h0 := hc 0 (by decide)
  apply Classical.byContradiction
  intro hlt
  have : W.heap[1]? = none := by simp; omega
  simp [World.cell?, this] at h0
end Go.Proofs.YtmgaeapckfdbpabDoor
