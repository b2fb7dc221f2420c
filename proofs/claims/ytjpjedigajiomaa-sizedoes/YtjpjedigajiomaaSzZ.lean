/-
  DERIVED. THE WALK of the law SizeDoes.
-/
import Derived.Test.YtjpjedigajiomaaSzH
namespace Go.Proofs.Ytjpjedigajiomaa
open Go.Shelf Go.RowKit Go.Lib Go.IntWalk Go.Maps
set_option linter.unusedVariables false
set_option linter.unusedSimpArgs false
set_option maxRecDepth 100000

/-- what Norm tells, as a list -/
def NRes (l : List Tm) (c a : Int) (r : List Tm) : Prop := (c ≠ 0 ∧ FaultP l c a ∧ r = []) ∨ (c = 0 ∧ a = 0 ∧ OkN l ∧ NF (l.map te) (r.map te))
theorem normP_row {B : Nat} {w : World} {l : List Tm} {u : Value} {c a : Int} (h : NormP B w l u c a) : ∃ r, OwnL kTerm B w u r ∧ NRes l c a r := by
  rcases h with ⟨h1, rfl, h3, h4⟩ | ⟨h1, i, h, h2, h3, rfl, h5, h6⟩ | ⟨h1, h2, h3, h4, r, h5, h6⟩
  · exact ⟨[], OwnL.nil, .inl ⟨by omega, .inl ⟨h1, h3, h4⟩, rfl⟩⟩
  · exact ⟨[], OwnL.nil, .inl ⟨by omega, .inr (.inl ⟨h1, i, h, h2, h3, h5, h6⟩), rfl⟩⟩
  · exact ⟨r, h5, .inr ⟨h3, h4, ⟨h1, h2⟩, h6⟩⟩
theorem faultP_det {l : List Tm} {c a c' a' : Int} (h : FaultP l c a) (h' : FaultP l c' a') : c = c' ∧ a = a' := by
  rcases h with ⟨h1, rfl, rfl⟩ | ⟨h1, i, hi, h2, h3, rfl, rfl⟩ | ⟨h1, h2, rfl, rfl⟩ <;> rcases h' with ⟨k1, rfl, rfl⟩ | ⟨k1, j, hj, k2, k3, rfl, rfl⟩ | ⟨k1, k2, rfl, rfl⟩
  · exact ⟨rfl, rfl⟩
  · omega
  · omega
  · omega
  · refine ⟨rfl, ?_⟩
    rcases Nat.lt_trichotomy i j with q | q | q
    · rw [k3 i q] at h2; cases h2
    · rw [q]
    · rw [h3 j q] at k2; cases k2
  · rw [k2 _ (List.getElem_mem hi)] at h2; cases h2
  · omega
  · rw [h2 _ (List.getElem_mem hj)] at k2; cases k2
  · exact ⟨rfl, rfl⟩
theorem nres_det {l : List Tm} {c a c' a' : Int} {r r' : List Tm} (h : NRes l c a r) (h' : NRes l c' a' r') : c = c' ∧ a = a' ∧ r.map te = r'.map te := by
  rcases h with ⟨h1, h2, rfl⟩ | ⟨rfl, rfl, h3, h4⟩ <;> rcases h' with ⟨k1, k2, rfl⟩ | ⟨rfl, rfl, k3, k4⟩
  · obtain ⟨e1, e2⟩ := faultP_det h2 k2
    exact ⟨e1, e2, rfl⟩
  · exact absurd k3 (faultP_not h2 h1)
  · exact absurd h3 (faultP_not k2 k1)
  · exact ⟨rfl, rfl, h4.uniq k4⟩
theorem withP_row {B : Nat} {w : World} {names : List ByteArray} {L : List (List Tm)} {s : List Tm} {u : Value} {c a : Int} (h : WithP B w names L s u c a) : c = wcode names L s ∧ a = (if wcode names L s = 0 then 0 else -1) ∧ OwnL kTerm B w u (if wcode names L s = 0 then withL names L s else []) := by
  obtain ⟨rfl, h⟩ := h
  rcases h with ⟨h1, rfl, rfl⟩ | ⟨h1, rfl, h3⟩
  · rw [if_neg h1, if_neg h1]
    exact ⟨rfl, rfl, OwnL.nil⟩
  · rw [if_pos h1, if_pos h1]
    exact ⟨rfl, rfl, h3⟩
theorem valP_det {l : List Tm} {names : List ByteArray} {L : List Int} {x c a x' c' a' : Int} (h : ValP l names L x c a) (h' : ValP l names L x' c' a') : x = x' ∧ c = c' ∧ a = a' := by
  rcases h with ⟨h1, h2, rfl⟩ | ⟨h1, h2, r, h3, rfl, rfl, rfl⟩ <;> rcases h' with ⟨k1, k2, rfl⟩ | ⟨k1, k2, r', k3, rfl, rfl, rfl⟩
  · obtain ⟨e1, e2⟩ := faultP_det h1 k1
    exact ⟨rfl, e1, e2⟩
  · exact absurd ⟨k1, k2⟩ (faultP_not h1 h2)
  · exact absurd ⟨h1, h2⟩ (faultP_not k1 k2)
  · rw [h3.uniq k3]
    exact ⟨rfl, rfl, rfl⟩
theorem eqFault (c a : Int) (W : World) : (binOp .eql 30 (.agg #[.int .i64 c, .int .i64 a]) (.agg #[.int .i64 c, .int .i64 a])).run Try.prog W = .ok (.bool true) W := by
  simp [go_sem]
theorem wpList_cat {w w' : World} {ops : Array Oper} {rest : List Oper} {o : Oper} {a : Act} {Q : Exit → Act → World → Prop} (hg : o.guard = none) (s x : Operand) (ho : o.op = .call { callee := .builtin .append, args := #[s, x], argTypes := #[23, 23] }) (v u v' : Value) (hs : a.eval s = v) (hx : a.eval x = u)
    (hr : (Builtin.append_ #[23, 23] o.type #[v, u]).run Try.prog w = .ok v' w') (h : wpList Try.prog ops Q rest (a.put o.dst v') w') : wpList Try.prog ops Q (o :: rest) a w := by
  refine wpList_plain hg fun K' hK' => ?_
  exact oper_cat s x ho v u v' hs hx hr (hK' _ _ h)

set_option maxHeartbeats 16000000 in
theorem does_walk {oka okb okn okl okv : Nat → Prop} {w : World} {va vb vn vl vv : Value} {a b : List Tm} {names : List ByteArray} {L : List (List Tm)} {v : List Int} (ha : HTerms oka w va a) (hb : HTerms okb w vb b) (hn : HNames okn w vn names) (hL : HSizes okl w vl L) (hv : HInts okv w vv v) :
    Calls Try.prog 3 #[va, vb, vn, vl, vv] w fun e w' => e = .returned (.bool true) ∧ Below w.heap.size w w' := by
  have hbeg := begun_any w
  obtain ⟨aa, ca, rfl, ha1, ha2, _⟩ := ha.at
  obtain ⟨ab, cb, rfl, hb1, hb2, _⟩ := hb.at
  obtain ⟨an, cn, rfl, hn1, hn2, _⟩ := hn.at
  obtain ⟨aL, cL, rfl, hL1, hL2, _⟩ := hL.at
  obtain ⟨av, cv, rfl, hv1, hv2, _⟩ := hv.at
  unfold maxLen at hv2
  have HA := hide ha
  have HB := hide hb
  have HN := hide hn
  have HL := hide hL
  have HV := hide hv
  clear ha hb hn hL hv
  go_enter Try.func3, Try.ntmps3
  go_wp2_with fail
  refine hbeg.mono ?_
  rintro e w1 ⟨rfl, b1⟩
  clear hbeg
  have hg1 := great_any (HA.out.keep (w' := w1) b1.size (fun i _ hl => b1.block i hl)) (HN.out.keep (w' := w1) b1.size (fun i _ hl => b1.block i hl)) (HL.out.keep (w' := w1) b1.size (fun i _ hl => b1.block i hl))
  have hg2 := great_any (HB.out.keep (w' := w1) b1.size (fun i _ hl => b1.block i hl)) (vn := .slice none 0 0) (names := []) (vl := .slice none 0 0) (L := []) (okn := fun _ => True) (okl := fun _ => True) ⟨fun _ => [], ⟨_, _, rfl, Nat.le_refl _, Nat.zero_le _, fun h => absurd h (Nat.lt_irrefl _)⟩, fun i h => absurd h (Nat.not_lt_zero _)⟩ ⟨fun _ => [], ⟨_, _, rfl, Nat.le_refl _, Nat.zero_le _, fun h => absurd h (Nat.lt_irrefl _)⟩, fun i h => absurd h (Nat.not_lt_zero _)⟩
  go_upto_region 3 with fail
  go_cut [38] (fun v38 wd => ∃ q : Bool, v38 = .bool q ∧ Hid (q = false → NotG a names L ∧ NotG b [] [] ∧ v.length ≤ 1000) ∧ wd = w1)
  case first =>
    go_wp2_with fail
    refine hg1.mono ?_
    rintro e w2 ⟨⟨hq1, hww⟩⟩
    rw [hww]
    clear hww
    rcases hq1 with rfl | ⟨rfl, hng1⟩
    · go_wp2_with fail
      go_meet
      case rel => exact ⟨true, rfl, hide (fun h => by cases h), rfl⟩
    · go_wp2_with fail
      refine hg2.mono ?_
      rintro e w3 ⟨⟨hq2, hww⟩⟩
      rw [hww]
      clear hww
      rcases hq2 with rfl | ⟨rfl, hng2⟩
      · go_wp2_with fail
        go_meet
        case rel => exact ⟨true, rfl, hide (fun h => by cases h), rfl⟩
      · by_cases hvl : 1000 < v.length
        · have hvI : (1000 : Int) < (v.length : Int) := by omega
          go_wp2_with fail
          go_meet
          case rel => exact ⟨true, rfl, hide (fun h => by cases h), rfl⟩
        · have hvI : ¬ (1000 : Int) < (v.length : Int) := by omega
          have HX := hide (And.intro hng1 (And.intro hng2 (show v.length ≤ 1000 by omega)))
          clear hng1 hng2
          go_wp2_with fail
          go_meet
          case rel => exact ⟨false, congrArg Value.bool (decide_eq_false (by omega)), hide (fun _ => HX.out), rfl⟩
  case rest =>
    obtain ⟨q, rfl, HQ, hww⟩ := hcut
    rw [hww]
    clear hww hg1 hg2
    cases q with
    | true =>
      go_wp2
      go_ret
      exact ⟨rfl, b1⟩
    | false =>
      obtain ⟨ng1, ng2, hv1000⟩ := HQ.out rfl
      have hsa : ∀ t ∈ a, t.2.size ≤ maxLen := fun t ht => by have := ng1.ss t ht; unfold maxLen; omega
      have hsn : ∀ x ∈ names, x.size ≤ maxLen := fun x hx => by have := ng1.ns x hx; unfold maxLen; omega
      have hal := ng1.hs
      have hLl := ng1.hl
      have hLs := ng1.ls
      clear HQ
      obtain ⟨vo, w2, ro, oo, bo, go1⟩ := run_cat (B := w1.heap.size) (w := w1) (ty := 23) (v := .slice none 0 0) (l := []) OwnL.nil (HA.out.keep (w' := w1) b1.size (fun i _ hl => b1.block i hl)) (Nat.le_refl _) (by simp; omega)
      rw [List.nil_append] at oo
      have B2 := b1.trans (bo.mono b1.size)
      obtain ⟨ao, co, hvo, ho1, ho2⟩ := oo.form
      subst hvo
      clear go1 b1
      go_upto_region 6 with (at_builtin; refine wpList_cat rfl _ _ rfl _ _ _ (by rfl) (by rfl) ro ?_)
      clear ro bo

      have hc := norm_any (terms_row oo.row)
      go_wp2_with fail
      refine hc.mono ?_
      rintro e w3 ⟨u1, c1, a1, rfl, hp1, bt⟩
      clear hc
      have B3 := B2.trans (bt.mono B2.size)
      have oo' := oo.below bt
      clear oo
      have oo := oo'
      clear oo'
      clear bt
      obtain ⟨r1, o1, hr1⟩ := normP_row hp1
      obtain ⟨as1, cs1, hu1, _, _⟩ := o1.form
      subst hu1
      have HR1 := hide hr1
      clear hr1 hp1
      go_upto_region 7 with fail
      obtain ⟨w4, hwn⟩ : ∃ w4, w4 = w3.alloc (.cells #[.int .i64 c1, .int .i64 a1] 30 (0, 0)) := ⟨_, rfl⟩
      have bt : Below w3.heap.size w3 w4 := by rw [hwn]; exact (Below.refl _ _).alloc (Nat.le_refl _) _
      have K1 : w4.heap[w3.heap.size]? = some (.cells #[.int .i64 c1, .int .i64 a1] 30 (0, 0)) := by rw [hwn]; exact heap_new _ _
      rw [← hwn]
      clear hwn
      have B4 := B3.trans (bt.mono B3.size)
      have oo' := oo.below bt
      have o1' := o1.below bt
      clear oo o1
      have oo := oo'
      have o1 := o1'
      clear oo' o1'
      clear bt
      have hc := refNorm_any (HA.out.keep (w' := w4) B4.size (fun i _ hl => B4.block i hl))
      go_wp2_with fail
      refine hc.mono ?_
      rintro e w5 ⟨u2, c2, a2, rfl, hp2, bt⟩
      clear hc
      have B5 := B4.trans (bt.mono B4.size)
      have oo' := oo.below bt
      have o1' := o1.below bt
      have K1' := (bt.block _ (lt_of K1)).trans K1
      clear oo o1 K1
      have oo := oo'
      have o1 := o1'
      have K1 := K1'
      clear oo' o1' K1'
      clear bt
      obtain ⟨r2, o2, hr2⟩ := normP_row hp2
      obtain ⟨as2, cs2, hu2, _, _⟩ := o2.form
      subst hu2
      have HR2 := hide hr2
      clear hr2 hp2
      obtain ⟨e1, e2, e3⟩ := nres_det HR1.out HR2.out
      subst e1
      subst e2
      have HEQ1 := hide (eqL_te.2 e3)
      clear e3
      go_upto_region 8 with fail
      obtain ⟨w6, hwn⟩ : ∃ w6, w6 = w5.alloc (.cells #[.int .i64 c1, .int .i64 a1] 30 (0, 0)) := ⟨_, rfl⟩
      have bt : Below w5.heap.size w5 w6 := by rw [hwn]; exact (Below.refl _ _).alloc (Nat.le_refl _) _
      have K2 : w6.heap[w5.heap.size]? = some (.cells #[.int .i64 c1, .int .i64 a1] 30 (0, 0)) := by rw [hwn]; exact heap_new _ _
      rw [← hwn]
      clear hwn
      have B6 := B5.trans (bt.mono B5.size)
      have oo' := oo.below bt
      have o1' := o1.below bt
      have K1' := (bt.block _ (lt_of K1)).trans K1
      have o2' := o2.below bt
      clear oo o1 K1 o2
      have oo := oo'
      have o1 := o1'
      have K1 := K1'
      have o2 := o2'
      clear oo' o1' K1' o2'
      clear bt
      have hc := with_any (terms_row oo.row) (HN.out.keep (w' := w6) B6.size (fun i _ hl => B6.block i hl)) (HL.out.keep (w' := w6) B6.size (fun i _ hl => B6.block i hl)) hsa hsn (by omega) (fun m hm => by have := hLs m hm; omega)
      go_wp2_with fail
      refine hc.mono ?_
      rintro e w7 ⟨u3, c3, a3, rfl, hp3, bt⟩
      clear hc
      have B7 := B6.trans (bt.mono B6.size)
      have oo' := oo.below bt
      have o1' := o1.below bt
      have K1' := (bt.block _ (lt_of K1)).trans K1
      have o2' := o2.below bt
      have K2' := (bt.block _ (lt_of K2)).trans K2
      clear oo o1 K1 o2 K2
      have oo := oo'
      have o1 := o1'
      have K1 := K1'
      have o2 := o2'
      have K2 := K2'
      clear oo' o1' K1' o2' K2'
      clear bt
      obtain ⟨ec3, ea3, o3⟩ := withP_row hp3
      obtain ⟨wl, hwl⟩ : ∃ wl, wl = (if wcode names L a = 0 then withL names L a else []) := ⟨_, rfl⟩
      have HWL := hide hwl
      clear hwl
      rw [← HWL.out] at o3
      obtain ⟨as3, cs3, hu3, _, _⟩ := o3.form
      subst hu3
      clear hp3
      have EC3 := hide ec3
      have EA3 := hide ea3
      clear ec3 ea3
      go_upto_region 9 with fail
      obtain ⟨w8, hwn⟩ : ∃ w8, w8 = w7.alloc (.cells #[.int .i64 c3, .int .i64 a3] 30 (0, 0)) := ⟨_, rfl⟩
      have bt : Below w7.heap.size w7 w8 := by rw [hwn]; exact (Below.refl _ _).alloc (Nat.le_refl _) _
      have K3 : w8.heap[w7.heap.size]? = some (.cells #[.int .i64 c3, .int .i64 a3] 30 (0, 0)) := by rw [hwn]; exact heap_new _ _
      rw [← hwn]
      clear hwn
      have B8 := B7.trans (bt.mono B7.size)
      have oo' := oo.below bt
      have o1' := o1.below bt
      have K1' := (bt.block _ (lt_of K1)).trans K1
      have o2' := o2.below bt
      have K2' := (bt.block _ (lt_of K2)).trans K2
      have o3' := o3.below bt
      clear oo o1 K1 o2 K2 o3
      have oo := oo'
      have o1 := o1'
      have K1 := K1'
      have o2 := o2'
      have K2 := K2'
      have o3 := o3'
      clear oo' o1' K1' o2' K2' o3'
      clear bt
      have hc := refWith_any (HA.out.keep (w' := w8) B8.size (fun i _ hl => B8.block i hl)) (HN.out.keep (w' := w8) B8.size (fun i _ hl => B8.block i hl)) (HL.out.keep (w' := w8) B8.size (fun i _ hl => B8.block i hl)) hal hLs
      go_wp2_with fail
      refine hc.mono ?_
      rintro e w9 ⟨u4, c4, a4, rfl, hp4, bt⟩
      clear hc
      have B9 := B8.trans (bt.mono B8.size)
      have oo' := oo.below bt
      have o1' := o1.below bt
      have K1' := (bt.block _ (lt_of K1)).trans K1
      have o2' := o2.below bt
      have K2' := (bt.block _ (lt_of K2)).trans K2
      have o3' := o3.below bt
      have K3' := (bt.block _ (lt_of K3)).trans K3
      clear oo o1 K1 o2 K2 o3 K3
      have oo := oo'
      have o1 := o1'
      have K1 := K1'
      have o2 := o2'
      have K2 := K2'
      have o3 := o3'
      have K3 := K3'
      clear oo' o1' K1' o2' K2' o3' K3'
      clear bt
      obtain ⟨ec4, ea4, o4⟩ := withP_row hp4
      rw [← HWL.out] at o4
      obtain ⟨as4, cs4, hu4, _, _⟩ := o4.form
      subst hu4
      clear hp4
      obtain rfl : c3 = c4 := EC3.out.trans ec4.symm
      obtain rfl : a3 = a4 := EA3.out.trans ea4.symm
      clear EC3 ec4 EA3 ea4
      go_upto_region 10 with fail
      obtain ⟨w10, hwn⟩ : ∃ w10, w10 = w9.alloc (.cells #[.int .i64 c3, .int .i64 a3] 30 (0, 0)) := ⟨_, rfl⟩
      have bt : Below w9.heap.size w9 w10 := by rw [hwn]; exact (Below.refl _ _).alloc (Nat.le_refl _) _
      have K4 : w10.heap[w9.heap.size]? = some (.cells #[.int .i64 c3, .int .i64 a3] 30 (0, 0)) := by rw [hwn]; exact heap_new _ _
      rw [← hwn]
      clear hwn
      have B10 := B9.trans (bt.mono B9.size)
      have oo' := oo.below bt
      have o1' := o1.below bt
      have K1' := (bt.block _ (lt_of K1)).trans K1
      have o2' := o2.below bt
      have K2' := (bt.block _ (lt_of K2)).trans K2
      have o3' := o3.below bt
      have K3' := (bt.block _ (lt_of K3)).trans K3
      have o4' := o4.below bt
      clear oo o1 K1 o2 K2 o3 K3 o4
      have oo := oo'
      have o1 := o1'
      have K1 := K1'
      have o2 := o2'
      have K2 := K2'
      have o3 := o3'
      have K3 := K3'
      have o4 := o4'
      clear oo' o1' K1' o2' K2' o3' K3' o4'
      clear bt
      have hc := value_any (terms_row oo.row) (HN.out.keep (w' := w10) B10.size (fun i _ hl => B10.block i hl)) (HV.out.keep (w' := w10) B10.size (fun i _ hl => B10.block i hl)) hsa hsn (by omega)
      go_wp2_with fail
      refine hc.mono ?_
      rintro e w11 ⟨x5, c5, a5, rfl, hp5, bt⟩
      clear hc
      have B11 := B10.trans (bt.mono B10.size)
      have oo' := oo.below bt
      have o1' := o1.below bt
      have K1' := (bt.block _ (lt_of K1)).trans K1
      have o2' := o2.below bt
      have K2' := (bt.block _ (lt_of K2)).trans K2
      have o3' := o3.below bt
      have K3' := (bt.block _ (lt_of K3)).trans K3
      have o4' := o4.below bt
      have K4' := (bt.block _ (lt_of K4)).trans K4
      clear oo o1 K1 o2 K2 o3 K3 o4 K4
      have oo := oo'
      have o1 := o1'
      have K1 := K1'
      have o2 := o2'
      have K2 := K2'
      have o3 := o3'
      have K3 := K3'
      have o4 := o4'
      have K4 := K4'
      clear oo' o1' K1' o2' K2' o3' K3' o4' K4'
      clear bt
      have HV5 := hide hp5
      clear hp5
      go_upto_region 11 with fail
      obtain ⟨w12, hwn⟩ : ∃ w12, w12 = w11.alloc (.cells #[.int .i64 c5, .int .i64 a5] 30 (0, 0)) := ⟨_, rfl⟩
      have bt : Below w11.heap.size w11 w12 := by rw [hwn]; exact (Below.refl _ _).alloc (Nat.le_refl _) _
      have K5 : w12.heap[w11.heap.size]? = some (.cells #[.int .i64 c5, .int .i64 a5] 30 (0, 0)) := by rw [hwn]; exact heap_new _ _
      rw [← hwn]
      clear hwn
      have B12 := B11.trans (bt.mono B11.size)
      have oo' := oo.below bt
      have o1' := o1.below bt
      have K1' := (bt.block _ (lt_of K1)).trans K1
      have o2' := o2.below bt
      have K2' := (bt.block _ (lt_of K2)).trans K2
      have o3' := o3.below bt
      have K3' := (bt.block _ (lt_of K3)).trans K3
      have o4' := o4.below bt
      have K4' := (bt.block _ (lt_of K4)).trans K4
      clear oo o1 K1 o2 K2 o3 K3 o4 K4
      have oo := oo'
      have o1 := o1'
      have K1 := K1'
      have o2 := o2'
      have K2 := K2'
      have o3 := o3'
      have K3 := K3'
      have o4 := o4'
      have K4 := K4'
      clear oo' o1' K1' o2' K2' o3' K3' o4' K4'
      clear bt
      have hc := refValue_any (HA.out.keep (w' := w12) B12.size (fun i _ hl => B12.block i hl)) (HN.out.keep (w' := w12) B12.size (fun i _ hl => B12.block i hl)) (HV.out.keep (w' := w12) B12.size (fun i _ hl => B12.block i hl))
      go_wp2_with fail
      refine hc.mono ?_
      rintro e w13 ⟨x6, c6, a6, rfl, hp6, bt⟩
      clear hc
      have B13 := B12.trans (bt.mono B12.size)
      have oo' := oo.below bt
      have o1' := o1.below bt
      have K1' := (bt.block _ (lt_of K1)).trans K1
      have o2' := o2.below bt
      have K2' := (bt.block _ (lt_of K2)).trans K2
      have o3' := o3.below bt
      have K3' := (bt.block _ (lt_of K3)).trans K3
      have o4' := o4.below bt
      have K4' := (bt.block _ (lt_of K4)).trans K4
      have K5' := (bt.block _ (lt_of K5)).trans K5
      clear oo o1 K1 o2 K2 o3 K3 o4 K4 K5
      have oo := oo'
      have o1 := o1'
      have K1 := K1'
      have o2 := o2'
      have K2 := K2'
      have o3 := o3'
      have K3 := K3'
      have o4 := o4'
      have K4 := K4'
      have K5 := K5'
      clear oo' o1' K1' o2' K2' o3' K3' o4' K4' K5'
      clear bt
      obtain ⟨e1, e2, e3⟩ := valP_det HV5.out hp6
      subst e1
      subst e2
      subst e3
      clear hp6 HV5
      go_upto_region 12 with fail
      obtain ⟨w14, hwn⟩ : ∃ w14, w14 = w13.alloc (.cells #[.int .i64 c5, .int .i64 a5] 30 (0, 0)) := ⟨_, rfl⟩
      have bt : Below w13.heap.size w13 w14 := by rw [hwn]; exact (Below.refl _ _).alloc (Nat.le_refl _) _
      have K6 : w14.heap[w13.heap.size]? = some (.cells #[.int .i64 c5, .int .i64 a5] 30 (0, 0)) := by rw [hwn]; exact heap_new _ _
      rw [← hwn]
      clear hwn
      have B14 := B13.trans (bt.mono B13.size)
      have oo' := oo.below bt
      have o1' := o1.below bt
      have K1' := (bt.block _ (lt_of K1)).trans K1
      have o2' := o2.below bt
      have K2' := (bt.block _ (lt_of K2)).trans K2
      have o3' := o3.below bt
      have K3' := (bt.block _ (lt_of K3)).trans K3
      have o4' := o4.below bt
      have K4' := (bt.block _ (lt_of K4)).trans K4
      have K5' := (bt.block _ (lt_of K5)).trans K5
      clear oo o1 K1 o2 K2 o3 K3 o4 K4 K5
      have oo := oo'
      have o1 := o1'
      have K1 := K1'
      have o2 := o2'
      have K2 := K2'
      have o3 := o3'
      have K3 := K3'
      have o4 := o4'
      have K4 := K4'
      have K5 := K5'
      clear oo' o1' K1' o2' K2' o3' K3' o4' K4' K5'
      clear bt
      have heF := fun c a W => eqFault c a W
      have d1 := cell_of K1 0
      have f1 := cell_of K1 1
      have d2 := cell_of K2 0
      have f2 := cell_of K2 1
      simp at d1 f1 d2 f2
      have hc := sameTerms_any (terms_row o1.row) (terms_row o2.row)
      rw [HEQ1.out] at hc
      go_wp2_with fail
      refine hc.mono ?_
      clear HEQ1
      rintro e w15 ⟨rfl, bt⟩
      clear hc
      have B15 := B14.trans (bt.mono B14.size)
      have oo' := oo.below bt
      have o1' := o1.below bt
      have K1' := (bt.block _ (lt_of K1)).trans K1
      have o2' := o2.below bt
      have K2' := (bt.block _ (lt_of K2)).trans K2
      have o3' := o3.below bt
      have K3' := (bt.block _ (lt_of K3)).trans K3
      have o4' := o4.below bt
      have K4' := (bt.block _ (lt_of K4)).trans K4
      have K5' := (bt.block _ (lt_of K5)).trans K5
      have K6' := (bt.block _ (lt_of K6)).trans K6
      clear oo o1 K1 o2 K2 o3 K3 o4 K4 K5 K6
      have oo := oo'
      have o1 := o1'
      have K1 := K1'
      have o2 := o2'
      have K2 := K2'
      have o3 := o3'
      have K3 := K3'
      have o4 := o4'
      have K4 := K4'
      have K5 := K5'
      have K6 := K6'
      clear oo' o1' K1' o2' K2' o3' K3' o4' K4' K5' K6'
      clear bt
      clear d1 d2 f1 f2
      have d3 := cell_of K3 0
      have f3 := cell_of K3 1
      have d4 := cell_of K4 0
      have f4 := cell_of K4 1
      simp at d3 f3 d4 f4
      have hc := sameTerms_any (terms_row o3.row) (terms_row o4.row)
      rw [eqL_te.2 rfl] at hc
      go_wp2_with fail
      refine hc.mono ?_
      rintro e w16 ⟨rfl, bt⟩
      clear hc
      have B16 := B15.trans (bt.mono B15.size)
      have oo' := oo.below bt
      have o1' := o1.below bt
      have K1' := (bt.block _ (lt_of K1)).trans K1
      have o2' := o2.below bt
      have K2' := (bt.block _ (lt_of K2)).trans K2
      have o3' := o3.below bt
      have K3' := (bt.block _ (lt_of K3)).trans K3
      have o4' := o4.below bt
      have K4' := (bt.block _ (lt_of K4)).trans K4
      have K5' := (bt.block _ (lt_of K5)).trans K5
      have K6' := (bt.block _ (lt_of K6)).trans K6
      clear oo o1 K1 o2 K2 o3 K3 o4 K4 K5 K6
      have oo := oo'
      have o1 := o1'
      have K1 := K1'
      have o2 := o2'
      have K2 := K2'
      have o3 := o3'
      have K3 := K3'
      have o4 := o4'
      have K4 := K4'
      have K5 := K5'
      have K6 := K6'
      clear oo' o1' K1' o2' K2' o3' K3' o4' K4' K5' K6'
      clear bt
      clear d3 d4 f3 f4
      have d5 := cell_of K5 0
      have f5 := cell_of K5 1
      have d6 := cell_of K6 0
      have f6 := cell_of K6 1
      simp at d5 f5 d6 f6
      have hc := same_any (terms_row oo.row) (HB.out.keep (w' := w16) B16.size (fun i _ hl => B16.block i hl))
      go_wp2_with fail
      refine hc.mono ?_
      rintro e w17 ⟨q1, rfl, hq1, bt⟩
      clear hc
      have B17 := B16.trans (bt.mono B16.size)
      have oo' := oo.below bt
      have o1' := o1.below bt
      have K1' := (bt.block _ (lt_of K1)).trans K1
      have o2' := o2.below bt
      have K2' := (bt.block _ (lt_of K2)).trans K2
      have o3' := o3.below bt
      have K3' := (bt.block _ (lt_of K3)).trans K3
      have o4' := o4.below bt
      have K4' := (bt.block _ (lt_of K4)).trans K4
      have K5' := (bt.block _ (lt_of K5)).trans K5
      have K6' := (bt.block _ (lt_of K6)).trans K6
      clear oo o1 K1 o2 K2 o3 K3 o4 K4 K5 K6
      have oo := oo'
      have o1 := o1'
      have K1 := K1'
      have o2 := o2'
      have K2 := K2'
      have o3 := o3'
      have K3 := K3'
      have o4 := o4'
      have K4 := K4'
      have K5 := K5'
      have K6 := K6'
      clear oo' o1' K1' o2' K2' o3' K3' o4' K4' K5' K6'
      clear bt
      clear d5 d6 f5 f6
      have hc := sameSize_any (HA.out.keep (w' := w17) B17.size (fun i _ hl => B17.block i hl)) (HB.out.keep (w' := w17) B17.size (fun i _ hl => B17.block i hl))
      go_wp2_with fail
      refine hc.mono ?_
      rintro e w18 ⟨q2, rfl, hq2, bt⟩
      clear hc
      have B18 := B17.trans (bt.mono B17.size)
      have oo' := oo.below bt
      have o1' := o1.below bt
      have K1' := (bt.block _ (lt_of K1)).trans K1
      have o2' := o2.below bt
      have K2' := (bt.block _ (lt_of K2)).trans K2
      have o3' := o3.below bt
      have K3' := (bt.block _ (lt_of K3)).trans K3
      have o4' := o4.below bt
      have K4' := (bt.block _ (lt_of K4)).trans K4
      have K5' := (bt.block _ (lt_of K5)).trans K5
      have K6' := (bt.block _ (lt_of K6)).trans K6
      clear oo o1 K1 o2 K2 o3 K3 o4 K4 K5 K6
      have oo := oo'
      have o1 := o1'
      have K1 := K1'
      have o2 := o2'
      have K2 := K2'
      have o3 := o3'
      have K3 := K3'
      have o4 := o4'
      have K4 := K4'
      have K5 := K5'
      have K6 := K6'
      clear oo' o1' K1' o2' K2' o3' K3' o4' K4' K5' K6'
      clear bt
      obtain rfl : q1 = q2 := Bool.eq_iff_iff.2 (hq1.trans hq2.symm)
      clear hq1 hq2
      have hc := sameTerms_any (terms_row oo.row) (HA.out.keep (w' := w18) B18.size (fun i _ hl => B18.block i hl))
      rw [eqL_te.2 rfl] at hc
      go_wp2_with fail
      refine hc.mono ?_
      rintro e w19 ⟨rfl, bt⟩
      clear hc
      have B19 := B18.trans (bt.mono B18.size)
      have oo' := oo.below bt
      have o1' := o1.below bt
      have K1' := (bt.block _ (lt_of K1)).trans K1
      have o2' := o2.below bt
      have K2' := (bt.block _ (lt_of K2)).trans K2
      have o3' := o3.below bt
      have K3' := (bt.block _ (lt_of K3)).trans K3
      have o4' := o4.below bt
      have K4' := (bt.block _ (lt_of K4)).trans K4
      have K5' := (bt.block _ (lt_of K5)).trans K5
      have K6' := (bt.block _ (lt_of K6)).trans K6
      clear oo o1 K1 o2 K2 o3 K3 o4 K4 K5 K6
      have oo := oo'
      have o1 := o1'
      have K1 := K1'
      have o2 := o2'
      have K2 := K2'
      have o3 := o3'
      have K3 := K3'
      have o4 := o4'
      have K4 := K4'
      have K5 := K5'
      have K6 := K6'
      clear oo' o1' K1' o2' K2' o3' K3' o4' K4' K5' K6'
      clear bt
      go_wp2
      go_ret
      exact ⟨rfl, B19⟩
end Go.Proofs.Ytjpjedigajiomaa
