/-
  DERIVED. THE WALK of the document's comparison of programs, places left out.
-/
import Derived.Test.YtplofgkofkjhdaaGreatDoorSm11
import Derived.Test.YtplofgkofkjhdaaGreatDoorSm8
import Derived.Deep.RegionHeld3
namespace Go.Proofs.YtplofgkofkjhdaaGreatDoor
open Go.RowKit Go.IntWalk
set_option linter.unusedVariables false
set_option linter.unusedSimpArgs false
set_option maxRecDepth 100000

set_option maxHeartbeats 8000000 in
theorem sameProgram_any {ok ok' : Nat → Prop} {w : World} {ao ao' : Option Addr} {n n' cap cap' : Nat} {l r : List Nd} (hl : HNds ok w (.slice ao n cap) l) (hr : HNds ok' w (.slice ao' n' cap') r) :
    Calls Tryz.prog 8 #[.agg #[.slice ao n cap], .agg #[.slice ao' n' cap'], .bool false] w fun e w' => e = .returned (.bool (eqL neq l r)) ∧ Below w.heap.size w w' := by
  obtain ⟨p1, p2, hv, hc1, hc2, hat⟩ := hl.at
  injection hv with q1 q2 q3
  have HN := hide q2
  rw [← q1] at hat
  rw [← q2, ← q3] at hc1
  rw [← q3] at hc2
  clear q1 q2 q3 hl
  obtain ⟨p1', p2', hv', hd1, hd2, hat'⟩ := hr.at
  injection hv' with q1 q2 q3
  have HM := hide q2
  rw [← q1] at hat'
  rw [← q2, ← q3] at hd1
  rw [← q3] at hd2
  clear q1 q2 q3 hr
  unfold maxLen at hc2 hd2
  obtain ⟨R, hR⟩ : ∃ R, R = eqL neq l r := ⟨_, rfl⟩
  rw [← hR]
  have HR := hide hR
  clear hR
  obtain ⟨W, hW⟩ : ∃ W, W = (w.alloc (.cells #[.slice ao n cap] 25 (0, 0))).alloc (.cells #[.slice ao' n' cap'] 25 (0, 0)) := ⟨_, rfl⟩
  have zW : W.heap.size = w.heap.size + 1 + 1 := by rw [hW]; simp
  have bW : Below w.heap.size w W := by rw [hW]; exact ((Below.refl _ w).alloc (Nat.le_refl _) _).alloc (by simp) _
  have pW : W.heap[w.heap.size]? = some (.cells #[.slice ao n cap] 25 (0, 0)) := by rw [hW]; exact keep_alloc (heap_new w _) _
  have qW : W.heap[w.heap.size + 1]? = some (.cells #[.slice ao' n' cap'] 25 (0, 0)) := by
    have := heap_new (w.alloc (.cells #[.slice ao n cap] 25 (0, 0))) (.cells #[.slice ao' n' cap'] 25 (0, 0))
    rw [hW]
    simpa using this
  by_cases hlen : n = n'
  · subst hlen
    have hq : ((n : Int) != (n : Int)) = false := by simp
    go_enter Tryz.func8, Tryz.ntmps8
    go_wp2
    rw [← hW]
    clear hW
    go_loopg [7] n (fun k v wr => ∃ i, i ≤ n ∧ k = n - i ∧ v = .int .i64 (i : Nat) ∧ Hid (∀ j (h : j < l.length) (h' : j < r.length), j < i → neq l[j] r[j] = true) ∧ Below W.heap.size W wr)
    case atStart => exact ⟨0, Nat.zero_le _, rfl, rfl, fun j _ _ h => absurd h (Nat.not_lt_zero _), Below.refl _ _⟩
    case round =>
      obtain ⟨i, hi, rfl, rfl, H, hbr⟩ := hrel
      obtain ⟨wo, hwo⟩ : ∃ wo, wo = wr := ⟨_, rfl⟩
      subst hwo
      have hbw : Below w.heap.size w wo := bW.trans (hbr.mono (by omega))
      have zr := hbr.size
      have pr := cell_of ((aside hbr (S := [])).keep pW (lt_of pW) (by simp)) 0
      have qr := cell_of ((aside hbr (S := [])).keep qW (lt_of qW) (by simp)) 0
      simp at pr qr
      by_cases hlt : i < n
      · have hil : i < l.length := by have := HN.out; omega
        have hir : i < r.length := by have := HM.out; omega
        obtain ⟨b, o, x, rfl, hb, hxa, hx⟩ := hat i hil
        obtain ⟨b', o', y, rfl, hb', hya, hy⟩ := hat' i hir
        obtain ⟨c0, c1, c2, c3, c4, c5, c6⟩ := hxa.keep (hbw.block b hb)
        obtain ⟨d0, d1, d2, d3, d4, d5, d6⟩ := hya.keep (hbw.block b' hb')
        clear hat hat' hxa hya
        have hb1 : b < wo.heap.size := Nat.lt_of_lt_of_le hb hbw.size
        have hb2 : b' < wo.heap.size := Nat.lt_of_lt_of_le hb' hbw.size
        have z0 : w.heap.size < wo.heap.size := by omega
        have z1 : w.heap.size + 1 < wo.heap.size := by omega
        go_wp2
        go_region_held3 (fun w' => w'.cell? ⟨w.heap.size, 0, none⟩ = some (.slice (some ⟨b, o, none⟩) n cap) ∧ w'.cell? ⟨w.heap.size + 1, 0, none⟩ = some (.slice (some ⟨b', o', none⟩) n cap') ∧ w'.cell? ⟨b, o + i * 7, none⟩ = some (.string x.name) ∧ w'.cell? ⟨b, o + i * 7 + 1, none⟩ = some (.int .i64 x.place) ∧ w'.cell? ⟨b, o + i * 7 + 2, none⟩ = some (.slice x.a2 x.n2 x.c2) ∧ w'.cell? ⟨b, o + i * 7 + 3, none⟩ = some (.slice x.a3 x.n3 x.c3) ∧ w'.cell? ⟨b, o + i * 7 + 4, none⟩ = some (.slice x.a4 x.n4 x.c4) ∧ w'.cell? ⟨b, o + i * 7 + 5, none⟩ = some (.slice x.a5 x.n5 x.c5) ∧ w'.cell? ⟨b, o + i * 7 + 6, none⟩ = some (.slice x.a6 x.n6 x.c6) ∧ w'.cell? ⟨b', o' + i * 7, none⟩ = some (.string y.name) ∧ w'.cell? ⟨b', o' + i * 7 + 1, none⟩ = some (.int .i64 y.place) ∧ w'.cell? ⟨b', o' + i * 7 + 2, none⟩ = some (.slice y.a2 y.n2 y.c2) ∧ w'.cell? ⟨b', o' + i * 7 + 3, none⟩ = some (.slice y.a3 y.n3 y.c3) ∧ w'.cell? ⟨b', o' + i * 7 + 4, none⟩ = some (.slice y.a4 y.n4 y.c4) ∧ w'.cell? ⟨b', o' + i * 7 + 5, none⟩ = some (.slice y.a5 y.n5 y.c5) ∧ w'.cell? ⟨b', o' + i * 7 + 6, none⟩ = some (.slice y.a6 y.n6 y.c6)) (go_keep) (fail)
        · -- FIRST
          obtain ⟨W1, hW1⟩ : ∃ W1, W1 = ((wo.alloc (.cells #[.string x.name, .int .i64 x.place, .slice x.a2 x.n2 x.c2, .slice x.a3 x.n3 x.c3, .slice x.a4 x.n4 x.c4, .slice x.a5 x.n5 x.c5, .slice x.a6 x.n6 x.c6] 39 (0, 0))).alloc (.cells #[.string y.name, .int .i64 y.place, .slice y.a2 y.n2 y.c2, .slice y.a3 y.n3 y.c3, .slice y.a4 y.n4 y.c4, .slice y.a5 y.n5 y.c5, .slice y.a6 y.n6 y.c6] 39 (0, 0))).drew := ⟨_, rfl⟩
          have KA : W1.heap[wo.heap.size]? = some (.cells #[.string x.name, .int .i64 x.place, .slice x.a2 x.n2 x.c2, .slice x.a3 x.n3 x.c3, .slice x.a4 x.n4 x.c4, .slice x.a5 x.n5 x.c5, .slice x.a6 x.n6 x.c6] 39 (0, 0)) := by rw [hW1]; exact keep_alloc (heap_new wo (.cells #[.string x.name, .int .i64 x.place, .slice x.a2 x.n2 x.c2, .slice x.a3 x.n3 x.c3, .slice x.a4 x.n4 x.c4, .slice x.a5 x.n5 x.c5, .slice x.a6 x.n6 x.c6] 39 (0, 0))) _
          have KB : W1.heap[wo.heap.size + 1]? = some (.cells #[.string y.name, .int .i64 y.place, .slice y.a2 y.n2 y.c2, .slice y.a3 y.n3 y.c3, .slice y.a4 y.n4 y.c4, .slice y.a5 y.n5 y.c5, .slice y.a6 y.n6 y.c6] 39 (0, 0)) := by
            have := heap_new (wo.alloc (.cells #[.string x.name, .int .i64 x.place, .slice x.a2 x.n2 x.c2, .slice x.a3 x.n3 x.c3, .slice x.a4 x.n4 x.c4, .slice x.a5 x.n5 x.c5, .slice x.a6 x.n6 x.c6] 39 (0, 0))) (.cells #[.string y.name, .int .i64 y.place, .slice y.a2 y.n2 y.c2, .slice y.a3 y.n3 y.c3, .slice y.a4 y.n4 y.c4, .slice y.a5 y.n5 y.c5, .slice y.a6 y.n6 y.c6] 39 (0, 0))
            have e : (wo.alloc (.cells #[.string x.name, .int .i64 x.place, .slice x.a2 x.n2 x.c2, .slice x.a3 x.n3 x.c3, .slice x.a4 x.n4 x.c4, .slice x.a5 x.n5 x.c5, .slice x.a6 x.n6 x.c6] 39 (0, 0))).heap.size = wo.heap.size + 1 := by simp
            rw [e] at this
            rw [hW1]
            exact this
          have b1 : Below wo.heap.size wo W1 := by rw [hW1]; exact (((Below.refl _ wo).alloc (Nat.le_refl _) _).alloc (by simp) _).drew
          have U0 : Below w.heap.size w W1 := hbw.trans (b1.mono hbw.size)
          have U : ∀ q, Below w.heap.size w (W1.drewN q) := fun q => ⟨U0.os, U0.tape, U0.output, U0.size, U0.block⟩
          rw [← hW1]
          clear hW1
          have KX := KA
          have KY := KB
          have NM : Hid (seq l[i].name r[i].name = (x.name.toList == y.name.toList)) := by show _ = _; rw [hx.name, hy.name]; rfl
          clear KA KB
          have xx0 := cell_of KX 0
          have yy0 := cell_of KY 0
          have xx2 := cell_of KX 2
          have yy2 := cell_of KY 2
          have xx3 := cell_of KX 3
          have yy3 := cell_of KY 3
          have xx4 := cell_of KX 4
          have yy4 := cell_of KY 4
          have xx5 := cell_of KX 5
          have yy5 := cell_of KY 5
          have xx6 := cell_of KX 6
          have yy6 := cell_of KY 6
          simp at xx0 yy0 xx2 yy2 xx3 yy3 xx4 yy4 xx5 yy5 xx6 yy6
          cases h0 : (x.name.toList == y.name.toList)
          · as_aux_lemma =>
              go_wp2
              go_ret
              exact ⟨ret_bool (by rw [HR.out]; exact (eqL_bad i hil hir (by simp [neq, NM.out, h0])).symm), U0⟩
          · go_wp2_with fail
            refine (refNames_any (hx.sizes.under U0) (hy.sizes.under U0)).mono ?_
            rintro e w2 ⟨rfl, m1, rfl⟩
            cases h1 : eqL seq l[i].sizes r[i].sizes
            · as_aux_lemma =>
                go_wp2
                go_ret
                exact ⟨ret_bool (by rw [HR.out]; exact (eqL_bad i hil hir (by simp [neq, NM.out, h0, h1])).symm), U _⟩
            · go_wp2_with fail
              refine (refDecls_any (hx.inn.under (U _)) (hy.inn.under (U _))).mono ?_
              rintro e w2 ⟨rfl, m2, rfl⟩
              cases h2 : eqL deq l[i].inn r[i].inn
              · as_aux_lemma =>
                  go_wp2
                  go_ret
                  exact ⟨ret_bool (by rw [HR.out]; exact (eqL_bad i hil hir (by simp [neq, NM.out, h0, h1, h2])).symm), U _⟩
              · go_wp2_with fail
                refine (refDecls_any (hx.out.under (U _)) (hy.out.under (U _))).mono ?_
                rintro e w2 ⟨rfl, m3, rfl⟩
                cases h3 : eqL deq l[i].out r[i].out
                · as_aux_lemma =>
                    go_wp2
                    go_ret
                    exact ⟨ret_bool (by rw [HR.out]; exact (eqL_bad i hil hir (by simp [neq, NM.out, h0, h1, h2, h3])).symm), U _⟩
                · go_wp2_with fail
                  refine (refDecls_any (hx.loc.under (U _)) (hy.loc.under (U _))).mono ?_
                  rintro e w2 ⟨rfl, m4, rfl⟩
                  cases h4 : eqL deq l[i].loc r[i].loc
                  · as_aux_lemma =>
                      go_wp2
                      go_ret
                      exact ⟨ret_bool (by rw [HR.out]; exact (eqL_bad i hil hir (by simp [neq, NM.out, h0, h1, h2, h3, h4])).symm), U _⟩
                  ·
                    obtain ⟨qa, qc, qv, qe1, qe2, qat⟩ := hx.eqs.at
                    obtain ⟨ra, rc, rv, re1, re2, rat⟩ := hy.eqs.at
                    injection qv with u1 u2 u3
                    injection rv with v1 v2 v3
                    rw [← u1] at qat
                    rw [← v1] at rat
                    have HU := hide u2
                    have HV := hide v2
                    rw [← u2, ← u3] at qe1
                    rw [← u3] at qe2
                    rw [← v2, ← v3] at re1
                    rw [← v3] at re2
                    unfold maxLen at qe2 re2
                    clear u1 u2 u3 v1 v2 v3
                    by_cases h5 : x.n6 = y.n6
                    · have h5f : ((x.n6 : Int) != (y.n6 : Int)) = false := by simp [h5]
                      have H5 := hide h5
                      clear h5
                      have zk1 := lt_of KX
                      have zk2 := lt_of KY
                      go_wp2
                      go_loopg [10] x.n6 (fun k v wk => ∃ j, j ≤ x.n6 ∧ k = x.n6 - j ∧ v = .int .i64 (j : Nat) ∧ Hid (∀ t (h : t < l[i].eqs.length) (h' : t < r[i].eqs.length), t < j → qeq l[i].eqs[t] r[i].eqs[t] = true) ∧ Below W1.heap.size W1 wk)
                      case atStart => exact ⟨0, Nat.zero_le _, rfl, rfl, fun t _ _ h => absurd h (Nat.not_lt_zero _), ⟨rfl, rfl, rfl, Nat.le_refl _, fun _ _ => rfl⟩⟩
                      case round =>
                        obtain ⟨j, hj, rfl, rfl, G, hbk⟩ := hrel
                        have pk := (hbk.cell (p := ⟨wo.heap.size, 6, none⟩) zk1).trans xx6
                        have qk := (hbk.cell (p := ⟨wo.heap.size + 1, 6, none⟩) zk2).trans yy6
                        have zk := hbk.size
                        clear xx0 xx2 xx3 xx4 xx5 xx6 yy0 yy2 yy3 yy4 yy5 yy6 c0 c1 c2 c3 c4 c5 c6 d0 d1 d2 d3 d4 d5 d6 pr qr
                        by_cases hjt : j < x.n6
                        · have hjl : j < l[i].eqs.length := by have := HU.out; omega
                          have hjr : j < r[i].eqs.length := by have := HV.out; have := H5.out; omega
                          have hjt2 : j < y.n6 := by have := H5.out; omega
                          obtain ⟨bp, op, p, xe, hbp, hpa, hp⟩ := qat j hjl
                          obtain ⟨bq, oq, q, ye, hbq, hqa, hq'⟩ := rat j hjr
                          have Bk : Below w.heap.size w wr := U0.trans (hbk.mono U0.size)
                          rw [xe] at pk
                          rw [ye] at qk
                          obtain ⟨s0, s1, s2, s3, s4⟩ := hpa.keep (Bk.block bp hbp)
                          obtain ⟨t0, t1, t2, t3, t4⟩ := hqa.keep (Bk.block bq hbq)
                          have hz1 : bp < wr.heap.size := Nat.lt_of_lt_of_le hbp Bk.size
                          have hz2 : bq < wr.heap.size := Nat.lt_of_lt_of_le hbq Bk.size
                          have hz3 : wo.heap.size < wr.heap.size := Nat.lt_of_lt_of_le zk1 zk
                          have hz4 : wo.heap.size + 1 < wr.heap.size := Nat.lt_of_lt_of_le zk2 zk
                          clear xe ye hpa hqa qat rat
                          go_wp2
                          go_region_held3 (fun w' => w'.cell? ⟨wo.heap.size, 6, none⟩ = some (.slice (some ⟨bp, op, none⟩) x.n6 x.c6) ∧ w'.cell? ⟨wo.heap.size + 1, 6, none⟩ = some (.slice (some ⟨bq, oq, none⟩) y.n6 y.c6) ∧ w'.cell? ⟨bp, op + j * 5, none⟩ = some (.int .i64 p.place) ∧ w'.cell? ⟨bp, op + j * 5 + 1, none⟩ = some (.slice p.aN p.nN p.cN) ∧ w'.cell? ⟨bp, op + j * 5 + 2, none⟩ = some (.string p.node) ∧ w'.cell? ⟨bp, op + j * 5 + 3, none⟩ = some (.slice p.aS p.nS p.cS) ∧ w'.cell? ⟨bp, op + j * 5 + 4, none⟩ = some (.slice p.aE p.nE p.cE) ∧ w'.cell? ⟨bq, oq + j * 5, none⟩ = some (.int .i64 q.place) ∧ w'.cell? ⟨bq, oq + j * 5 + 1, none⟩ = some (.slice q.aN q.nN q.cN) ∧ w'.cell? ⟨bq, oq + j * 5 + 2, none⟩ = some (.string q.node) ∧ w'.cell? ⟨bq, oq + j * 5 + 3, none⟩ = some (.slice q.aS q.nS q.cS) ∧ w'.cell? ⟨bq, oq + j * 5 + 4, none⟩ = some (.slice q.aE q.nE q.cE)) (go_keep) (fail)
                          · obtain ⟨V1, hV1⟩ : ∃ V1, V1 = ((wr.alloc (.cells #[.int .i64 p.place, .slice p.aN p.nN p.cN, .string p.node, .slice p.aS p.nS p.cS, .slice p.aE p.nE p.cE] 43 (0, 0))).alloc (.cells #[.int .i64 q.place, .slice q.aN q.nN q.cN, .string q.node, .slice q.aS q.nS q.cS, .slice q.aE q.nE q.cE] 43 (0, 0))).drew := ⟨_, rfl⟩
                            have KA : V1.heap[wr.heap.size]? = some (.cells #[.int .i64 p.place, .slice p.aN p.nN p.cN, .string p.node, .slice p.aS p.nS p.cS, .slice p.aE p.nE p.cE] 43 (0, 0)) := by rw [hV1]; exact keep_alloc (heap_new wr (.cells #[.int .i64 p.place, .slice p.aN p.nN p.cN, .string p.node, .slice p.aS p.nS p.cS, .slice p.aE p.nE p.cE] 43 (0, 0))) _
                            have KB : V1.heap[wr.heap.size + 1]? = some (.cells #[.int .i64 q.place, .slice q.aN q.nN q.cN, .string q.node, .slice q.aS q.nS q.cS, .slice q.aE q.nE q.cE] 43 (0, 0)) := by
                              have := heap_new (wr.alloc (.cells #[.int .i64 p.place, .slice p.aN p.nN p.cN, .string p.node, .slice p.aS p.nS p.cS, .slice p.aE p.nE p.cE] 43 (0, 0))) (.cells #[.int .i64 q.place, .slice q.aN q.nN q.cN, .string q.node, .slice q.aS q.nS q.cS, .slice q.aE q.nE q.cE] 43 (0, 0))
                              have e : (wr.alloc (.cells #[.int .i64 p.place, .slice p.aN p.nN p.cN, .string p.node, .slice p.aS p.nS p.cS, .slice p.aE p.nE p.cE] 43 (0, 0))).heap.size = wr.heap.size + 1 := by simp
                              rw [e] at this
                              rw [hV1]
                              exact this
                            have c1 : Below wr.heap.size wr V1 := by rw [hV1]; exact (((Below.refl _ wr).alloc (Nat.le_refl _) _).alloc (by simp) _).drew
                            have T1 : Below W1.heap.size W1 V1 := hbk.trans (c1.mono hbk.size)
                            have T0 : Below w.heap.size w V1 := U0.trans (T1.mono U0.size)
                            have T : ∀ q, Below w.heap.size w (V1.drewN q) := fun q => ⟨T0.os, T0.tape, T0.output, T0.size, T0.block⟩
                            rw [← hV1]
                            clear hV1
                            have ND : Hid (seq l[i].eqs[j].node r[i].eqs[j].node = (p.node.toList == q.node.toList)) := by show _ = _; rw [hp.node, hq'.node]; rfl
                            have KP := KA
                            have KQ := KB
                            clear KA KB c1
                            have pp1 := cell_of KP 1
                            have qq1 := cell_of KQ 1
                            have pp2 := cell_of KP 2
                            have qq2 := cell_of KQ 2
                            have pp3 := cell_of KP 3
                            have qq3 := cell_of KQ 3
                            have pp4 := cell_of KP 4
                            have qq4 := cell_of KQ 4
                            simp at pp1 pp2 pp3 pp4 qq1 qq2 qq3 qq4
                            cases g0 : (p.node.toList == q.node.toList)
                            · as_aux_lemma =>
                                go_wp2
                                go_ret
                                exact ⟨ret_bool (by rw [HR.out]; exact (eqL_bad i hil hir (by simp [neq, NM.out, h0, h1, h2, h3, h4, eqL_bad j hjl hjr (f := qeq) (by simp [qeq, ND.out, g0])])).symm), T0⟩
                            · go_wp2_with fail
                              refine (refNames_any (hp.names.under T0) (hq'.names.under T0)).mono ?_
                              rintro e w2 ⟨rfl, d1, rfl⟩
                              cases g1 : eqL seq l[i].eqs[j].names r[i].eqs[j].names
                              · as_aux_lemma =>
                                  go_wp2
                                  go_ret
                                  exact ⟨ret_bool (by rw [HR.out]; exact (eqL_bad i hil hir (by simp [neq, NM.out, h0, h1, h2, h3, h4, eqL_bad j hjl hjr (f := qeq) (by simp [qeq, ND.out, g0, g1])])).symm), T _⟩
                              · go_wp2_with fail
                                refine (refSizes_any (hp.S.under (T _)) (hq'.S.under (T _))).mono ?_
                                rintro e w2 ⟨rfl, d2, rfl⟩
                                cases g2 : eqL (eqL teq) l[i].eqs[j].S r[i].eqs[j].S
                                · as_aux_lemma =>
                                    go_wp2
                                    go_ret
                                    exact ⟨ret_bool (by rw [HR.out]; exact (eqL_bad i hil hir (by simp [neq, NM.out, h0, h1, h2, h3, h4, eqL_bad j hjl hjr (f := qeq) (by simp [qeq, ND.out, g0, g1, g2])])).symm), T _⟩
                                · go_wp2_with fail
                                  refine (refExprs_any (hp.E.under (T _)) (hq'.E.under (T _))).mono ?_
                                  rintro e w2 ⟨rfl, d3, rfl⟩
                                  cases g3 : eqL xeq l[i].eqs[j].E r[i].eqs[j].E
                                  · as_aux_lemma =>
                                      go_wp2
                                      go_ret
                                      exact ⟨ret_bool (by rw [HR.out]; exact (eqL_bad i hil hir (by simp [neq, NM.out, h0, h1, h2, h3, h4, eqL_bad j hjl hjr (f := qeq) (by simp [qeq, ND.out, g0, g1, g2, g3])])).symm), T _⟩
                                  · as_aux_lemma =>
                                      go_wp2
                                      go_roundg (x.n6 - (j + 1))
                                      case measure => omega
                                      case rel =>
                                        refine ⟨j + 1, by omega, rfl, by go_num, fun t ht ht' htj => ?_, ⟨T1.os, T1.tape, T1.output, T1.size, T1.block⟩⟩
                                        by_cases e : t = j
                                        · subst e
                                          simp [qeq, ND.out, g0, g1, g2, g3]
                                        · exact G.out t ht ht' (by omega)
                          · obtain ⟨V1, hV1⟩ : ∃ V1, V1 = ((wr.alloc (.cells #[.int .i64 q.place, .slice q.aN q.nN q.cN, .string q.node, .slice q.aS q.nS q.cS, .slice q.aE q.nE q.cE] 43 (0, 0))).alloc (.cells #[.int .i64 p.place, .slice p.aN p.nN p.cN, .string p.node, .slice p.aS p.nS p.cS, .slice p.aE p.nE p.cE] 43 (0, 0))).drew := ⟨_, rfl⟩
                            have KA : V1.heap[wr.heap.size]? = some (.cells #[.int .i64 q.place, .slice q.aN q.nN q.cN, .string q.node, .slice q.aS q.nS q.cS, .slice q.aE q.nE q.cE] 43 (0, 0)) := by rw [hV1]; exact keep_alloc (heap_new wr (.cells #[.int .i64 q.place, .slice q.aN q.nN q.cN, .string q.node, .slice q.aS q.nS q.cS, .slice q.aE q.nE q.cE] 43 (0, 0))) _
                            have KB : V1.heap[wr.heap.size + 1]? = some (.cells #[.int .i64 p.place, .slice p.aN p.nN p.cN, .string p.node, .slice p.aS p.nS p.cS, .slice p.aE p.nE p.cE] 43 (0, 0)) := by
                              have := heap_new (wr.alloc (.cells #[.int .i64 q.place, .slice q.aN q.nN q.cN, .string q.node, .slice q.aS q.nS q.cS, .slice q.aE q.nE q.cE] 43 (0, 0))) (.cells #[.int .i64 p.place, .slice p.aN p.nN p.cN, .string p.node, .slice p.aS p.nS p.cS, .slice p.aE p.nE p.cE] 43 (0, 0))
                              have e : (wr.alloc (.cells #[.int .i64 q.place, .slice q.aN q.nN q.cN, .string q.node, .slice q.aS q.nS q.cS, .slice q.aE q.nE q.cE] 43 (0, 0))).heap.size = wr.heap.size + 1 := by simp
                              rw [e] at this
                              rw [hV1]
                              exact this
                            have c1 : Below wr.heap.size wr V1 := by rw [hV1]; exact (((Below.refl _ wr).alloc (Nat.le_refl _) _).alloc (by simp) _).drew
                            have T1 : Below W1.heap.size W1 V1 := hbk.trans (c1.mono hbk.size)
                            have T0 : Below w.heap.size w V1 := U0.trans (T1.mono U0.size)
                            have T : ∀ q, Below w.heap.size w (V1.drewN q) := fun q => ⟨T0.os, T0.tape, T0.output, T0.size, T0.block⟩
                            rw [← hV1]
                            clear hV1
                            have ND : Hid (seq l[i].eqs[j].node r[i].eqs[j].node = (p.node.toList == q.node.toList)) := by show _ = _; rw [hp.node, hq'.node]; rfl
                            have KP := KB
                            have KQ := KA
                            clear KA KB c1
                            have pp1 := cell_of KP 1
                            have qq1 := cell_of KQ 1
                            have pp2 := cell_of KP 2
                            have qq2 := cell_of KQ 2
                            have pp3 := cell_of KP 3
                            have qq3 := cell_of KQ 3
                            have pp4 := cell_of KP 4
                            have qq4 := cell_of KQ 4
                            simp at pp1 pp2 pp3 pp4 qq1 qq2 qq3 qq4
                            cases g0 : (p.node.toList == q.node.toList)
                            · as_aux_lemma =>
                                go_wp2
                                go_ret
                                exact ⟨ret_bool (by rw [HR.out]; exact (eqL_bad i hil hir (by simp [neq, NM.out, h0, h1, h2, h3, h4, eqL_bad j hjl hjr (f := qeq) (by simp [qeq, ND.out, g0])])).symm), T0⟩
                            · go_wp2_with fail
                              refine (refNames_any (hp.names.under T0) (hq'.names.under T0)).mono ?_
                              rintro e w2 ⟨rfl, d1, rfl⟩
                              cases g1 : eqL seq l[i].eqs[j].names r[i].eqs[j].names
                              · as_aux_lemma =>
                                  go_wp2
                                  go_ret
                                  exact ⟨ret_bool (by rw [HR.out]; exact (eqL_bad i hil hir (by simp [neq, NM.out, h0, h1, h2, h3, h4, eqL_bad j hjl hjr (f := qeq) (by simp [qeq, ND.out, g0, g1])])).symm), T _⟩
                              · go_wp2_with fail
                                refine (refSizes_any (hp.S.under (T _)) (hq'.S.under (T _))).mono ?_
                                rintro e w2 ⟨rfl, d2, rfl⟩
                                cases g2 : eqL (eqL teq) l[i].eqs[j].S r[i].eqs[j].S
                                · as_aux_lemma =>
                                    go_wp2
                                    go_ret
                                    exact ⟨ret_bool (by rw [HR.out]; exact (eqL_bad i hil hir (by simp [neq, NM.out, h0, h1, h2, h3, h4, eqL_bad j hjl hjr (f := qeq) (by simp [qeq, ND.out, g0, g1, g2])])).symm), T _⟩
                                · go_wp2_with fail
                                  refine (refExprs_any (hp.E.under (T _)) (hq'.E.under (T _))).mono ?_
                                  rintro e w2 ⟨rfl, d3, rfl⟩
                                  cases g3 : eqL xeq l[i].eqs[j].E r[i].eqs[j].E
                                  · as_aux_lemma =>
                                      go_wp2
                                      go_ret
                                      exact ⟨ret_bool (by rw [HR.out]; exact (eqL_bad i hil hir (by simp [neq, NM.out, h0, h1, h2, h3, h4, eqL_bad j hjl hjr (f := qeq) (by simp [qeq, ND.out, g0, g1, g2, g3])])).symm), T _⟩
                                  · as_aux_lemma =>
                                      go_wp2
                                      go_roundg (x.n6 - (j + 1))
                                      case measure => omega
                                      case rel =>
                                        refine ⟨j + 1, by omega, rfl, by go_num, fun t ht ht' htj => ?_, ⟨T1.os, T1.tape, T1.output, T1.size, T1.block⟩⟩
                                        by_cases e : t = j
                                        · subst e
                                          simp [qeq, ND.out, g0, g1, g2, g3]
                                        · exact G.out t ht ht' (by omega)
                        · have hje : j = x.n6 := by omega
                          subst hje
                          have h6 : eqL qeq l[i].eqs r[i].eqs = true := eqL_all (by rw [← HU.out, ← HV.out]; exact H5.out) (fun t ht ht' => G.out t ht ht' (by rw [HU.out]; exact ht))
                          have hNE : Hid (neq l[i] r[i] = true) := by show _ = _; simp [neq, NM.out, h0, h1, h2, h3, h4, h6]
                          clear qat rat h6
                          as_aux_lemma =>
                            go_wp2
                            go_roundg (n - (i + 1))
                            case measure => omega
                            case rel =>
                              refine ⟨i + 1, by omega, rfl, by go_num, fun t ht ht' hti => ?_, hbr.trans ((b1.trans (hbk.mono b1.size)).mono hbr.size)⟩
                              by_cases e : t = i
                              · subst e
                                exact hNE.out
                              · exact H.out t ht ht' (by omega)
                    · have h5t : ((x.n6 : Int) != (y.n6 : Int)) = true := by simp; omega
                      have h5e : eqL qeq l[i].eqs r[i].eqs = false := eqL_len (by rw [← HU.out, ← HV.out]; exact h5)
                      clear h5 qat rat
                      as_aux_lemma =>
                        go_wp2
                        go_ret
                        exact ⟨ret_bool (by rw [HR.out]; exact (eqL_bad i hil hir (by simp [neq, NM.out, h0, h1, h2, h3, h4, h5e])).symm), U _⟩
        · -- SECOND
          obtain ⟨W1, hW1⟩ : ∃ W1, W1 = ((wo.alloc (.cells #[.string y.name, .int .i64 y.place, .slice y.a2 y.n2 y.c2, .slice y.a3 y.n3 y.c3, .slice y.a4 y.n4 y.c4, .slice y.a5 y.n5 y.c5, .slice y.a6 y.n6 y.c6] 39 (0, 0))).alloc (.cells #[.string x.name, .int .i64 x.place, .slice x.a2 x.n2 x.c2, .slice x.a3 x.n3 x.c3, .slice x.a4 x.n4 x.c4, .slice x.a5 x.n5 x.c5, .slice x.a6 x.n6 x.c6] 39 (0, 0))).drew := ⟨_, rfl⟩
          have KA : W1.heap[wo.heap.size]? = some (.cells #[.string y.name, .int .i64 y.place, .slice y.a2 y.n2 y.c2, .slice y.a3 y.n3 y.c3, .slice y.a4 y.n4 y.c4, .slice y.a5 y.n5 y.c5, .slice y.a6 y.n6 y.c6] 39 (0, 0)) := by rw [hW1]; exact keep_alloc (heap_new wo (.cells #[.string y.name, .int .i64 y.place, .slice y.a2 y.n2 y.c2, .slice y.a3 y.n3 y.c3, .slice y.a4 y.n4 y.c4, .slice y.a5 y.n5 y.c5, .slice y.a6 y.n6 y.c6] 39 (0, 0))) _
          have KB : W1.heap[wo.heap.size + 1]? = some (.cells #[.string x.name, .int .i64 x.place, .slice x.a2 x.n2 x.c2, .slice x.a3 x.n3 x.c3, .slice x.a4 x.n4 x.c4, .slice x.a5 x.n5 x.c5, .slice x.a6 x.n6 x.c6] 39 (0, 0)) := by
            have := heap_new (wo.alloc (.cells #[.string y.name, .int .i64 y.place, .slice y.a2 y.n2 y.c2, .slice y.a3 y.n3 y.c3, .slice y.a4 y.n4 y.c4, .slice y.a5 y.n5 y.c5, .slice y.a6 y.n6 y.c6] 39 (0, 0))) (.cells #[.string x.name, .int .i64 x.place, .slice x.a2 x.n2 x.c2, .slice x.a3 x.n3 x.c3, .slice x.a4 x.n4 x.c4, .slice x.a5 x.n5 x.c5, .slice x.a6 x.n6 x.c6] 39 (0, 0))
            have e : (wo.alloc (.cells #[.string y.name, .int .i64 y.place, .slice y.a2 y.n2 y.c2, .slice y.a3 y.n3 y.c3, .slice y.a4 y.n4 y.c4, .slice y.a5 y.n5 y.c5, .slice y.a6 y.n6 y.c6] 39 (0, 0))).heap.size = wo.heap.size + 1 := by simp
            rw [e] at this
            rw [hW1]
            exact this
          have b1 : Below wo.heap.size wo W1 := by rw [hW1]; exact (((Below.refl _ wo).alloc (Nat.le_refl _) _).alloc (by simp) _).drew
          have U0 : Below w.heap.size w W1 := hbw.trans (b1.mono hbw.size)
          have U : ∀ q, Below w.heap.size w (W1.drewN q) := fun q => ⟨U0.os, U0.tape, U0.output, U0.size, U0.block⟩
          rw [← hW1]
          clear hW1
          have KX := KB
          have KY := KA
          have NM : Hid (seq l[i].name r[i].name = (x.name.toList == y.name.toList)) := by show _ = _; rw [hx.name, hy.name]; rfl
          clear KA KB
          have xx0 := cell_of KX 0
          have yy0 := cell_of KY 0
          have xx2 := cell_of KX 2
          have yy2 := cell_of KY 2
          have xx3 := cell_of KX 3
          have yy3 := cell_of KY 3
          have xx4 := cell_of KX 4
          have yy4 := cell_of KY 4
          have xx5 := cell_of KX 5
          have yy5 := cell_of KY 5
          have xx6 := cell_of KX 6
          have yy6 := cell_of KY 6
          simp at xx0 yy0 xx2 yy2 xx3 yy3 xx4 yy4 xx5 yy5 xx6 yy6
          cases h0 : (x.name.toList == y.name.toList)
          · as_aux_lemma =>
              go_wp2
              go_ret
              exact ⟨ret_bool (by rw [HR.out]; exact (eqL_bad i hil hir (by simp [neq, NM.out, h0])).symm), U0⟩
          · go_wp2_with fail
            refine (refNames_any (hx.sizes.under U0) (hy.sizes.under U0)).mono ?_
            rintro e w2 ⟨rfl, m1, rfl⟩
            cases h1 : eqL seq l[i].sizes r[i].sizes
            · as_aux_lemma =>
                go_wp2
                go_ret
                exact ⟨ret_bool (by rw [HR.out]; exact (eqL_bad i hil hir (by simp [neq, NM.out, h0, h1])).symm), U _⟩
            · go_wp2_with fail
              refine (refDecls_any (hx.inn.under (U _)) (hy.inn.under (U _))).mono ?_
              rintro e w2 ⟨rfl, m2, rfl⟩
              cases h2 : eqL deq l[i].inn r[i].inn
              · as_aux_lemma =>
                  go_wp2
                  go_ret
                  exact ⟨ret_bool (by rw [HR.out]; exact (eqL_bad i hil hir (by simp [neq, NM.out, h0, h1, h2])).symm), U _⟩
              · go_wp2_with fail
                refine (refDecls_any (hx.out.under (U _)) (hy.out.under (U _))).mono ?_
                rintro e w2 ⟨rfl, m3, rfl⟩
                cases h3 : eqL deq l[i].out r[i].out
                · as_aux_lemma =>
                    go_wp2
                    go_ret
                    exact ⟨ret_bool (by rw [HR.out]; exact (eqL_bad i hil hir (by simp [neq, NM.out, h0, h1, h2, h3])).symm), U _⟩
                · go_wp2_with fail
                  refine (refDecls_any (hx.loc.under (U _)) (hy.loc.under (U _))).mono ?_
                  rintro e w2 ⟨rfl, m4, rfl⟩
                  cases h4 : eqL deq l[i].loc r[i].loc
                  · as_aux_lemma =>
                      go_wp2
                      go_ret
                      exact ⟨ret_bool (by rw [HR.out]; exact (eqL_bad i hil hir (by simp [neq, NM.out, h0, h1, h2, h3, h4])).symm), U _⟩
                  ·
                    obtain ⟨qa, qc, qv, qe1, qe2, qat⟩ := hx.eqs.at
                    obtain ⟨ra, rc, rv, re1, re2, rat⟩ := hy.eqs.at
                    injection qv with u1 u2 u3
                    injection rv with v1 v2 v3
                    rw [← u1] at qat
                    rw [← v1] at rat
                    have HU := hide u2
                    have HV := hide v2
                    rw [← u2, ← u3] at qe1
                    rw [← u3] at qe2
                    rw [← v2, ← v3] at re1
                    rw [← v3] at re2
                    unfold maxLen at qe2 re2
                    clear u1 u2 u3 v1 v2 v3
                    by_cases h5 : x.n6 = y.n6
                    · have h5f : ((x.n6 : Int) != (y.n6 : Int)) = false := by simp [h5]
                      have H5 := hide h5
                      clear h5
                      have zk1 := lt_of KX
                      have zk2 := lt_of KY
                      go_wp2
                      go_loopg [10] x.n6 (fun k v wk => ∃ j, j ≤ x.n6 ∧ k = x.n6 - j ∧ v = .int .i64 (j : Nat) ∧ Hid (∀ t (h : t < l[i].eqs.length) (h' : t < r[i].eqs.length), t < j → qeq l[i].eqs[t] r[i].eqs[t] = true) ∧ Below W1.heap.size W1 wk)
                      case atStart => exact ⟨0, Nat.zero_le _, rfl, rfl, fun t _ _ h => absurd h (Nat.not_lt_zero _), ⟨rfl, rfl, rfl, Nat.le_refl _, fun _ _ => rfl⟩⟩
                      case round =>
                        obtain ⟨j, hj, rfl, rfl, G, hbk⟩ := hrel
                        have pk := (hbk.cell (p := ⟨wo.heap.size + 1, 6, none⟩) zk1).trans xx6
                        have qk := (hbk.cell (p := ⟨wo.heap.size, 6, none⟩) zk2).trans yy6
                        have zk := hbk.size
                        clear xx0 xx2 xx3 xx4 xx5 xx6 yy0 yy2 yy3 yy4 yy5 yy6 c0 c1 c2 c3 c4 c5 c6 d0 d1 d2 d3 d4 d5 d6 pr qr
                        by_cases hjt : j < x.n6
                        · have hjl : j < l[i].eqs.length := by have := HU.out; omega
                          have hjr : j < r[i].eqs.length := by have := HV.out; have := H5.out; omega
                          have hjt2 : j < y.n6 := by have := H5.out; omega
                          obtain ⟨bp, op, p, xe, hbp, hpa, hp⟩ := qat j hjl
                          obtain ⟨bq, oq, q, ye, hbq, hqa, hq'⟩ := rat j hjr
                          have Bk : Below w.heap.size w wr := U0.trans (hbk.mono U0.size)
                          rw [xe] at pk
                          rw [ye] at qk
                          obtain ⟨s0, s1, s2, s3, s4⟩ := hpa.keep (Bk.block bp hbp)
                          obtain ⟨t0, t1, t2, t3, t4⟩ := hqa.keep (Bk.block bq hbq)
                          have hz1 : bp < wr.heap.size := Nat.lt_of_lt_of_le hbp Bk.size
                          have hz2 : bq < wr.heap.size := Nat.lt_of_lt_of_le hbq Bk.size
                          have hz3 : wo.heap.size + 1 < wr.heap.size := Nat.lt_of_lt_of_le zk1 zk
                          have hz4 : wo.heap.size < wr.heap.size := Nat.lt_of_lt_of_le zk2 zk
                          clear xe ye hpa hqa qat rat
                          go_wp2
                          go_region_held3 (fun w' => w'.cell? ⟨wo.heap.size + 1, 6, none⟩ = some (.slice (some ⟨bp, op, none⟩) x.n6 x.c6) ∧ w'.cell? ⟨wo.heap.size, 6, none⟩ = some (.slice (some ⟨bq, oq, none⟩) y.n6 y.c6) ∧ w'.cell? ⟨bp, op + j * 5, none⟩ = some (.int .i64 p.place) ∧ w'.cell? ⟨bp, op + j * 5 + 1, none⟩ = some (.slice p.aN p.nN p.cN) ∧ w'.cell? ⟨bp, op + j * 5 + 2, none⟩ = some (.string p.node) ∧ w'.cell? ⟨bp, op + j * 5 + 3, none⟩ = some (.slice p.aS p.nS p.cS) ∧ w'.cell? ⟨bp, op + j * 5 + 4, none⟩ = some (.slice p.aE p.nE p.cE) ∧ w'.cell? ⟨bq, oq + j * 5, none⟩ = some (.int .i64 q.place) ∧ w'.cell? ⟨bq, oq + j * 5 + 1, none⟩ = some (.slice q.aN q.nN q.cN) ∧ w'.cell? ⟨bq, oq + j * 5 + 2, none⟩ = some (.string q.node) ∧ w'.cell? ⟨bq, oq + j * 5 + 3, none⟩ = some (.slice q.aS q.nS q.cS) ∧ w'.cell? ⟨bq, oq + j * 5 + 4, none⟩ = some (.slice q.aE q.nE q.cE)) (go_keep) (fail)
                          · obtain ⟨V1, hV1⟩ : ∃ V1, V1 = ((wr.alloc (.cells #[.int .i64 p.place, .slice p.aN p.nN p.cN, .string p.node, .slice p.aS p.nS p.cS, .slice p.aE p.nE p.cE] 43 (0, 0))).alloc (.cells #[.int .i64 q.place, .slice q.aN q.nN q.cN, .string q.node, .slice q.aS q.nS q.cS, .slice q.aE q.nE q.cE] 43 (0, 0))).drew := ⟨_, rfl⟩
                            have KA : V1.heap[wr.heap.size]? = some (.cells #[.int .i64 p.place, .slice p.aN p.nN p.cN, .string p.node, .slice p.aS p.nS p.cS, .slice p.aE p.nE p.cE] 43 (0, 0)) := by rw [hV1]; exact keep_alloc (heap_new wr (.cells #[.int .i64 p.place, .slice p.aN p.nN p.cN, .string p.node, .slice p.aS p.nS p.cS, .slice p.aE p.nE p.cE] 43 (0, 0))) _
                            have KB : V1.heap[wr.heap.size + 1]? = some (.cells #[.int .i64 q.place, .slice q.aN q.nN q.cN, .string q.node, .slice q.aS q.nS q.cS, .slice q.aE q.nE q.cE] 43 (0, 0)) := by
                              have := heap_new (wr.alloc (.cells #[.int .i64 p.place, .slice p.aN p.nN p.cN, .string p.node, .slice p.aS p.nS p.cS, .slice p.aE p.nE p.cE] 43 (0, 0))) (.cells #[.int .i64 q.place, .slice q.aN q.nN q.cN, .string q.node, .slice q.aS q.nS q.cS, .slice q.aE q.nE q.cE] 43 (0, 0))
                              have e : (wr.alloc (.cells #[.int .i64 p.place, .slice p.aN p.nN p.cN, .string p.node, .slice p.aS p.nS p.cS, .slice p.aE p.nE p.cE] 43 (0, 0))).heap.size = wr.heap.size + 1 := by simp
                              rw [e] at this
                              rw [hV1]
                              exact this
                            have c1 : Below wr.heap.size wr V1 := by rw [hV1]; exact (((Below.refl _ wr).alloc (Nat.le_refl _) _).alloc (by simp) _).drew
                            have T1 : Below W1.heap.size W1 V1 := hbk.trans (c1.mono hbk.size)
                            have T0 : Below w.heap.size w V1 := U0.trans (T1.mono U0.size)
                            have T : ∀ q, Below w.heap.size w (V1.drewN q) := fun q => ⟨T0.os, T0.tape, T0.output, T0.size, T0.block⟩
                            rw [← hV1]
                            clear hV1
                            have ND : Hid (seq l[i].eqs[j].node r[i].eqs[j].node = (p.node.toList == q.node.toList)) := by show _ = _; rw [hp.node, hq'.node]; rfl
                            have KP := KA
                            have KQ := KB
                            clear KA KB c1
                            have pp1 := cell_of KP 1
                            have qq1 := cell_of KQ 1
                            have pp2 := cell_of KP 2
                            have qq2 := cell_of KQ 2
                            have pp3 := cell_of KP 3
                            have qq3 := cell_of KQ 3
                            have pp4 := cell_of KP 4
                            have qq4 := cell_of KQ 4
                            simp at pp1 pp2 pp3 pp4 qq1 qq2 qq3 qq4
                            cases g0 : (p.node.toList == q.node.toList)
                            · as_aux_lemma =>
                                go_wp2
                                go_ret
                                exact ⟨ret_bool (by rw [HR.out]; exact (eqL_bad i hil hir (by simp [neq, NM.out, h0, h1, h2, h3, h4, eqL_bad j hjl hjr (f := qeq) (by simp [qeq, ND.out, g0])])).symm), T0⟩
                            · go_wp2_with fail
                              refine (refNames_any (hp.names.under T0) (hq'.names.under T0)).mono ?_
                              rintro e w2 ⟨rfl, d1, rfl⟩
                              cases g1 : eqL seq l[i].eqs[j].names r[i].eqs[j].names
                              · as_aux_lemma =>
                                  go_wp2
                                  go_ret
                                  exact ⟨ret_bool (by rw [HR.out]; exact (eqL_bad i hil hir (by simp [neq, NM.out, h0, h1, h2, h3, h4, eqL_bad j hjl hjr (f := qeq) (by simp [qeq, ND.out, g0, g1])])).symm), T _⟩
                              · go_wp2_with fail
                                refine (refSizes_any (hp.S.under (T _)) (hq'.S.under (T _))).mono ?_
                                rintro e w2 ⟨rfl, d2, rfl⟩
                                cases g2 : eqL (eqL teq) l[i].eqs[j].S r[i].eqs[j].S
                                · as_aux_lemma =>
                                    go_wp2
                                    go_ret
                                    exact ⟨ret_bool (by rw [HR.out]; exact (eqL_bad i hil hir (by simp [neq, NM.out, h0, h1, h2, h3, h4, eqL_bad j hjl hjr (f := qeq) (by simp [qeq, ND.out, g0, g1, g2])])).symm), T _⟩
                                · go_wp2_with fail
                                  refine (refExprs_any (hp.E.under (T _)) (hq'.E.under (T _))).mono ?_
                                  rintro e w2 ⟨rfl, d3, rfl⟩
                                  cases g3 : eqL xeq l[i].eqs[j].E r[i].eqs[j].E
                                  · as_aux_lemma =>
                                      go_wp2
                                      go_ret
                                      exact ⟨ret_bool (by rw [HR.out]; exact (eqL_bad i hil hir (by simp [neq, NM.out, h0, h1, h2, h3, h4, eqL_bad j hjl hjr (f := qeq) (by simp [qeq, ND.out, g0, g1, g2, g3])])).symm), T _⟩
                                  · as_aux_lemma =>
                                      go_wp2
                                      go_roundg (x.n6 - (j + 1))
                                      case measure => omega
                                      case rel =>
                                        refine ⟨j + 1, by omega, rfl, by go_num, fun t ht ht' htj => ?_, ⟨T1.os, T1.tape, T1.output, T1.size, T1.block⟩⟩
                                        by_cases e : t = j
                                        · subst e
                                          simp [qeq, ND.out, g0, g1, g2, g3]
                                        · exact G.out t ht ht' (by omega)
                          · obtain ⟨V1, hV1⟩ : ∃ V1, V1 = ((wr.alloc (.cells #[.int .i64 q.place, .slice q.aN q.nN q.cN, .string q.node, .slice q.aS q.nS q.cS, .slice q.aE q.nE q.cE] 43 (0, 0))).alloc (.cells #[.int .i64 p.place, .slice p.aN p.nN p.cN, .string p.node, .slice p.aS p.nS p.cS, .slice p.aE p.nE p.cE] 43 (0, 0))).drew := ⟨_, rfl⟩
                            have KA : V1.heap[wr.heap.size]? = some (.cells #[.int .i64 q.place, .slice q.aN q.nN q.cN, .string q.node, .slice q.aS q.nS q.cS, .slice q.aE q.nE q.cE] 43 (0, 0)) := by rw [hV1]; exact keep_alloc (heap_new wr (.cells #[.int .i64 q.place, .slice q.aN q.nN q.cN, .string q.node, .slice q.aS q.nS q.cS, .slice q.aE q.nE q.cE] 43 (0, 0))) _
                            have KB : V1.heap[wr.heap.size + 1]? = some (.cells #[.int .i64 p.place, .slice p.aN p.nN p.cN, .string p.node, .slice p.aS p.nS p.cS, .slice p.aE p.nE p.cE] 43 (0, 0)) := by
                              have := heap_new (wr.alloc (.cells #[.int .i64 q.place, .slice q.aN q.nN q.cN, .string q.node, .slice q.aS q.nS q.cS, .slice q.aE q.nE q.cE] 43 (0, 0))) (.cells #[.int .i64 p.place, .slice p.aN p.nN p.cN, .string p.node, .slice p.aS p.nS p.cS, .slice p.aE p.nE p.cE] 43 (0, 0))
                              have e : (wr.alloc (.cells #[.int .i64 q.place, .slice q.aN q.nN q.cN, .string q.node, .slice q.aS q.nS q.cS, .slice q.aE q.nE q.cE] 43 (0, 0))).heap.size = wr.heap.size + 1 := by simp
                              rw [e] at this
                              rw [hV1]
                              exact this
                            have c1 : Below wr.heap.size wr V1 := by rw [hV1]; exact (((Below.refl _ wr).alloc (Nat.le_refl _) _).alloc (by simp) _).drew
                            have T1 : Below W1.heap.size W1 V1 := hbk.trans (c1.mono hbk.size)
                            have T0 : Below w.heap.size w V1 := U0.trans (T1.mono U0.size)
                            have T : ∀ q, Below w.heap.size w (V1.drewN q) := fun q => ⟨T0.os, T0.tape, T0.output, T0.size, T0.block⟩
                            rw [← hV1]
                            clear hV1
                            have ND : Hid (seq l[i].eqs[j].node r[i].eqs[j].node = (p.node.toList == q.node.toList)) := by show _ = _; rw [hp.node, hq'.node]; rfl
                            have KP := KB
                            have KQ := KA
                            clear KA KB c1
                            have pp1 := cell_of KP 1
                            have qq1 := cell_of KQ 1
                            have pp2 := cell_of KP 2
                            have qq2 := cell_of KQ 2
                            have pp3 := cell_of KP 3
                            have qq3 := cell_of KQ 3
                            have pp4 := cell_of KP 4
                            have qq4 := cell_of KQ 4
                            simp at pp1 pp2 pp3 pp4 qq1 qq2 qq3 qq4
                            cases g0 : (p.node.toList == q.node.toList)
                            · as_aux_lemma =>
                                go_wp2
                                go_ret
                                exact ⟨ret_bool (by rw [HR.out]; exact (eqL_bad i hil hir (by simp [neq, NM.out, h0, h1, h2, h3, h4, eqL_bad j hjl hjr (f := qeq) (by simp [qeq, ND.out, g0])])).symm), T0⟩
                            · go_wp2_with fail
                              refine (refNames_any (hp.names.under T0) (hq'.names.under T0)).mono ?_
                              rintro e w2 ⟨rfl, d1, rfl⟩
                              cases g1 : eqL seq l[i].eqs[j].names r[i].eqs[j].names
                              · as_aux_lemma =>
                                  go_wp2
                                  go_ret
                                  exact ⟨ret_bool (by rw [HR.out]; exact (eqL_bad i hil hir (by simp [neq, NM.out, h0, h1, h2, h3, h4, eqL_bad j hjl hjr (f := qeq) (by simp [qeq, ND.out, g0, g1])])).symm), T _⟩
                              · go_wp2_with fail
                                refine (refSizes_any (hp.S.under (T _)) (hq'.S.under (T _))).mono ?_
                                rintro e w2 ⟨rfl, d2, rfl⟩
                                cases g2 : eqL (eqL teq) l[i].eqs[j].S r[i].eqs[j].S
                                · as_aux_lemma =>
                                    go_wp2
                                    go_ret
                                    exact ⟨ret_bool (by rw [HR.out]; exact (eqL_bad i hil hir (by simp [neq, NM.out, h0, h1, h2, h3, h4, eqL_bad j hjl hjr (f := qeq) (by simp [qeq, ND.out, g0, g1, g2])])).symm), T _⟩
                                · go_wp2_with fail
                                  refine (refExprs_any (hp.E.under (T _)) (hq'.E.under (T _))).mono ?_
                                  rintro e w2 ⟨rfl, d3, rfl⟩
                                  cases g3 : eqL xeq l[i].eqs[j].E r[i].eqs[j].E
                                  · as_aux_lemma =>
                                      go_wp2
                                      go_ret
                                      exact ⟨ret_bool (by rw [HR.out]; exact (eqL_bad i hil hir (by simp [neq, NM.out, h0, h1, h2, h3, h4, eqL_bad j hjl hjr (f := qeq) (by simp [qeq, ND.out, g0, g1, g2, g3])])).symm), T _⟩
                                  · as_aux_lemma =>
                                      go_wp2
                                      go_roundg (x.n6 - (j + 1))
                                      case measure => omega
                                      case rel =>
                                        refine ⟨j + 1, by omega, rfl, by go_num, fun t ht ht' htj => ?_, ⟨T1.os, T1.tape, T1.output, T1.size, T1.block⟩⟩
                                        by_cases e : t = j
                                        · subst e
                                          simp [qeq, ND.out, g0, g1, g2, g3]
                                        · exact G.out t ht ht' (by omega)
                        · have hje : j = x.n6 := by omega
                          subst hje
                          have h6 : eqL qeq l[i].eqs r[i].eqs = true := eqL_all (by rw [← HU.out, ← HV.out]; exact H5.out) (fun t ht ht' => G.out t ht ht' (by rw [HU.out]; exact ht))
                          have hNE : Hid (neq l[i] r[i] = true) := by show _ = _; simp [neq, NM.out, h0, h1, h2, h3, h4, h6]
                          clear qat rat h6
                          as_aux_lemma =>
                            go_wp2
                            go_roundg (n - (i + 1))
                            case measure => omega
                            case rel =>
                              refine ⟨i + 1, by omega, rfl, by go_num, fun t ht ht' hti => ?_, hbr.trans ((b1.trans (hbk.mono b1.size)).mono hbr.size)⟩
                              by_cases e : t = i
                              · subst e
                                exact hNE.out
                              · exact H.out t ht ht' (by omega)
                    · have h5t : ((x.n6 : Int) != (y.n6 : Int)) = true := by simp; omega
                      have h5e : eqL qeq l[i].eqs r[i].eqs = false := eqL_len (by rw [← HU.out, ← HV.out]; exact h5)
                      clear h5 qat rat
                      as_aux_lemma =>
                        go_wp2
                        go_ret
                        exact ⟨ret_bool (by rw [HR.out]; exact (eqL_bad i hil hir (by simp [neq, NM.out, h0, h1, h2, h3, h4, h5e])).symm), U _⟩
      · have hie : i = n := by omega
        subst hie
        clear hat hat'
        go_wp2
        go_ret
        refine ⟨ret_bool ?_, hbw⟩
        rw [HR.out]
        exact (eqL_all (by rw [← HN.out, ← HM.out]) (fun j hj hj' => H.out j hj hj' (by rw [HN.out]; exact hj))).symm
  · have hq : ((n : Int) != (n' : Int)) = true := by simp; omega
    clear hat hat'
    go_enter Tryz.func8, Tryz.ntmps8
    go_wp2
    rw [← hW]
    go_ret
    refine ⟨ret_bool ?_, bW⟩
    rw [HR.out]
    exact (eqL_len (by rw [← HN.out, ← HM.out]; exact hlen)).symm

end Go.Proofs.YtplofgkofkjhdaaGreatDoor
