/-
  DERIVED. THE WALK of Great: whatever program it is given, it tells true or false.
-/
import Derived.Test.YtplofgkofkjhdaaGreatDoorWg2
namespace Go.Proofs.YtplofgkofkjhdaaGreatDoor
open Go.RowKit Go.IntWalk
set_option linter.unusedVariables false
set_option linter.unusedSimpArgs false
set_option maxRecDepth 100000

theorem weighNames_b {ok : Nat → Prop} {w : World} {v : Value} {l : List ByteArray} (hl : HNames ok w v l) (z : Int) :
    Calls Tryz.prog 23 #[v, .int .i64 z] w fun e w' => (∃ y, e = .returned (.int .i64 y)) ∧ Below w.heap.size w w' := (weighNames_any hl z).mono fun _ _ ⟨h1, h2⟩ => ⟨h1, h2 ▸ Below.refl _ _⟩
theorem weighSizes_b {ok : Nat → Prop} {w : World} {v : Value} {l : List (List Tm)} (hl : HSizes ok w v l) (z : Int) :
    Calls Tryz.prog 25 #[v, .int .i64 z] w fun e w' => (∃ y, e = .returned (.int .i64 y)) ∧ Below w.heap.size w w' := (weighSizes_any hl z).mono fun _ _ ⟨h1, h2⟩ => ⟨h1, h2 ▸ Below.refl _ _⟩
theorem weighExprs_b {ok : Nat → Prop} {w : World} {v : Value} {l : List Ex} (hl : HExs ok w v l) (z : Int) :
    Calls Tryz.prog 26 #[v, .int .i64 z] w fun e w' => (∃ y, e = .returned (.int .i64 y)) ∧ Below w.heap.size w w' := (weighExprs_any hl z).mono fun _ _ ⟨h1, h2⟩ => ⟨h1, h2 ▸ Below.refl _ _⟩

/-- a truth was told -/
def IsBool (e : Ending) : Prop := ∃ y, e = .returned (.bool y)
theorem isBool_mk (y : Bool) : IsBool (.returned (.bool y)) := ⟨y, rfl⟩

set_option maxHeartbeats 16000000 in
theorem great_any {ok : Nat → Prop} {w : World} {ao : Option Addr} {n cap : Nat} {l : List Nd} (hl : HNds ok w (.slice ao n cap) l) :
    Calls Tryz.prog 9 #[.agg #[.slice ao n cap]] w fun e w' => IsBool e ∧ Below w.heap.size w w' := by
  obtain ⟨ao', cap', hv, hc1, hc2, hat⟩ := hl.at
  injection hv with q1 q2 q3
  have HN := hide q2
  rw [← q1] at hat
  rw [← q2, ← q3] at hc1
  rw [← q3] at hc2
  clear q1 q2 q3 hl
  unfold maxLen at hc2
  by_cases hbig : 100 < n
  · have hd : decide ((100 : Int) < (n : Int)) = true := by simp; omega
    clear hat
    go_enter Tryz.func9, Tryz.ntmps9
    go_wp2
    go_ret
    exact ⟨isBool_mk _, (Below.refl _ w).alloc (Nat.le_refl _) _⟩
  · have hd : decide ((100 : Int) < (n : Int)) = false := by simp; omega
    obtain ⟨W, hW⟩ : ∃ W, W = w.alloc (.cells #[.slice ao n cap] 25 (0, 0)) := ⟨_, rfl⟩
    have zW : W.heap.size = w.heap.size + 1 := by rw [hW]; simp
    have bW : Below w.heap.size w W := by rw [hW]; exact (Below.refl _ w).alloc (Nat.le_refl _) _
    have pW : W.heap[w.heap.size]? = some (.cells #[.slice ao n cap] 25 (0, 0)) := by rw [hW]; exact heap_new w _
    go_enter Tryz.func9, Tryz.ntmps9
    go_wp2
    rw [← hW]
    clear hW
    go_loopg [3, 4] n (fun k v3 v wr => ∃ i z, i ≤ n ∧ k = n - i ∧ v = .int .i64 (i : Nat) ∧ v3 = .int .i64 z ∧ Below W.heap.size W wr)
    case atStart => exact ⟨0, _, Nat.zero_le _, rfl, rfl, rfl, Below.refl _ _⟩
    case round =>
      obtain ⟨i, z, hi, rfl, rfl, rfl, hbr⟩ := hrel
      have hbw : Below w.heap.size w wr := bW.trans (hbr.mono (by omega))
      have zr := hbr.size
      have pr := cell_of ((aside hbr (S := [])).keep pW (lt_of pW) (by simp)) 0
      simp at pr
      by_cases hlt : i < n
      · by_cases hz : 0 ≤ z
        · have hdz : decide ((0 : Int) ≤ z) = true := by simp [hz]
          have hil : i < l.length := by have := HN.out; omega
          obtain ⟨b, o, x, rfl, hb, hxa, hx⟩ := hat i hil
          obtain ⟨c0, c1, c2, c3, c4, c5, c6⟩ := hxa.keep (hbw.block b hb)
          have hX := hx.under hbw
          obtain ⟨g1, g2, n2, n3, n4, n5, n6⟩ := hX
          clear hxa hx g1 g2
          by_cases h100 : 100 < x.name.size
          · have hd2 : decide ((100 : Int) < (x.name.size : Int)) = true := by simp; omega
            clear hat
            go_wp2
            go_ret
            exact ⟨isBool_mk _, hbw.alloc hbw.size _⟩
          · have hd2 : decide ((100 : Int) < (x.name.size : Int)) = false := by simp; omega
            by_cases h1000 : 1000 < x.n6
            · have hd3 : decide ((1000 : Int) < (x.n6 : Int)) = true := by simp; omega
              clear hat
              go_wp2
              go_ret
              exact ⟨isBool_mk _, hbw.alloc hbw.size _⟩
            · have hd3 : decide ((1000 : Int) < (x.n6 : Int)) = false := by simp; omega
              have B0 : Below wr.heap.size wr (wr.alloc (.cells #[.string x.name, .int .i64 x.place, .slice x.a2 x.n2 x.c2, .slice x.a3 x.n3 x.c3, .slice x.a4 x.n4 x.c4, .slice x.a5 x.n5 x.c5, .slice x.a6 x.n6 x.c6] 39 (0, 0))) := (Below.refl _ wr).alloc (Nat.le_refl _) _
              have K0 := heap_new wr (.cells #[.string x.name, .int .i64 x.place, .slice x.a2 x.n2 x.c2, .slice x.a3 x.n3 x.c3, .slice x.a4 x.n4 x.c4, .slice x.a5 x.n5 x.c5, .slice x.a6 x.n6 x.c6] 39 (0, 0))
              go_wp2_with fail
              refine (weighNames_b (n2.under B0) _).mono ?_
              rintro e w1 ⟨⟨z1, rfl⟩, b1⟩
              have B1 := B0.trans (b1.mono B0.size)
              have K1 := (aside b1 (S := [])).keep K0 (lt_of K0) (by simp)
              have Z1 : wr.heap.size + 1 ≤ w1.heap.size := by simpa using b1.size
              clear b1 K0 B0 c0 c1 c2 c3 c4 c5 c6
              have p3 := cell_of K1 3
              simp at p3
              go_wp2_with fail
              refine (weighDecls_any (n3.under B1) _).mono ?_
              rintro e w2 ⟨⟨z2, rfl⟩, b2⟩
              have B2 := B1.trans (b2.mono B1.size)
              have K2 := (aside b2 (S := [])).keep K1 (lt_of K1) (by simp)
              have Z2 := b2.size
              clear b2 p3 K1 B1
              have p4 := cell_of K2 4
              simp at p4
              go_wp2_with fail
              refine (weighDecls_any (n4.under B2) _).mono ?_
              rintro e w3 ⟨⟨z3, rfl⟩, b3⟩
              have B3 := B2.trans (b3.mono B2.size)
              have K3 := (aside b3 (S := [])).keep K2 (lt_of K2) (by simp)
              have Z3 := b3.size
              clear b3 p4 K2 B2
              have p5 := cell_of K3 5
              simp at p5
              go_wp2_with fail
              refine (weighDecls_any (n5.under B3) _).mono ?_
              rintro e w4 ⟨⟨z4, rfl⟩, b4⟩
              have B4 := B3.trans (b4.mono B3.size)
              have K4 := (aside b4 (S := [])).keep K3 (lt_of K3) (by simp)
              have Z4 := b4.size
              clear b4 p5 K3 B3
              obtain ⟨qo, qc, hqv, he1, he2, heat⟩ := n6.at
              injection hqv with r1 r2 r3
              have HE := hide r2
              rw [← r1] at heat
              rw [← r2, ← r3] at he1
              rw [← r3] at he2
              clear r1 r2 r3 n2 n3 n4 n5 n6 hat
              unfold maxLen at he2
              obtain ⟨m, hm⟩ : ∃ m, m = x.n6 := ⟨_, rfl⟩
              rw [← hm] at HE he1 hd3 K4
              have zK : wr.heap.size < w4.heap.size := by omega
              clear hm
              go_wp2
              go_loopg [3, 6] m (fun k v3 v wk => ∃ j z, j ≤ m ∧ k = m - j ∧ v = .int .i64 (j : Nat) ∧ v3 = .int .i64 z ∧ Below w4.heap.size w4 wk)
              case atStart => exact ⟨0, _, Nat.zero_le _, rfl, rfl, rfl, Below.refl _ _⟩
              case round =>
                obtain ⟨j, u, hj, rfl, rfl, rfl, hbk⟩ := hrel
                have Bk := B4.trans (hbk.mono B4.size)
                have Kk := (aside hbk (S := [])).keep K4 (lt_of K4) (by simp)
                have zk := hbk.size
                have pk := cell_of Kk 6
                simp at pk
                have hbe : Below w.heap.size w wr := hbw.trans (Bk.mono hbw.size)
                by_cases hjt : j < m
                · by_cases hu : 0 ≤ u
                  · have hdu : decide ((0 : Int) ≤ u) = true := by simp [hu]
                    have hjl : j < (l[i]).eqs.length := by have := HE.out; omega
                    obtain ⟨b', o', y, hxe, hb', hya, hy⟩ := heat j hjl
                    rw [hxe] at pk
                    clear hxe
                    obtain ⟨d0, d1, d2, d3, d4⟩ := hya.keep (Bk.block b' hb')
                    obtain ⟨g1, y1, g2, y3, y4⟩ := hy.under Bk
                    clear heat hya hy g1 g2
                    have E0 : Below wr.heap.size wr (wr.alloc (.cells #[.int .i64 y.place, .slice y.aN y.nN y.cN, .string y.node, .slice y.aS y.nS y.cS, .slice y.aE y.nE y.cE] 43 (0, 0))) := (Below.refl _ wr).alloc (Nat.le_refl _) _
                    have F0 := heap_new wr (.cells #[.int .i64 y.place, .slice y.aN y.nN y.cN, .string y.node, .slice y.aS y.nS y.cS, .slice y.aE y.nE y.cE] 43 (0, 0))
                    by_cases h100' : 100 < y.node.size
                    · have hd4 : decide ((100 : Int) < (y.node.size : Int)) = true := by simp; omega
                      go_wp2
                      go_ret
                      exact ⟨isBool_mk _, hbe.alloc hbe.size _⟩
                    · have hd4 : decide ((100 : Int) < (y.node.size : Int)) = false := by simp; omega
                      go_wp2_with fail
                      refine (weighNames_b (y1.under E0) _).mono ?_
                      rintro e v1 ⟨⟨s1, rfl⟩, f1⟩
                      have E1 := E0.trans (f1.mono E0.size)
                      have F1 := (aside f1 (S := [])).keep F0 (lt_of F0) (by simp)
                      clear f1 F0 E0 d0 d1 d2 d3 d4
                      have r3 := cell_of F1 3
                      have r4 := cell_of F1 4
                      simp at r3 r4
                      by_cases hs1 : 0 ≤ s1
                      · have hds1 : decide ((0 : Int) ≤ s1) = true := by simp [hs1]
                        go_wp2_with fail
                        refine (weighSizes_b (y3.under E1) _).mono ?_
                        rintro e v2 ⟨⟨s2, rfl⟩, f2⟩
                        have E2 := E1.trans (f2.mono E1.size)
                        have F2 := (aside f2 (S := [])).keep F1 (lt_of F1) (by simp)
                        clear f2 F1 E1 r3 r4
                        have r4 := cell_of F2 4
                        simp at r4
                        by_cases hs2 : 0 ≤ s2
                        · have hds2 : decide ((0 : Int) ≤ s2) = true := by simp [hs2]
                          go_wp2_with fail
                          refine (weighExprs_b (y4.under E2) _).mono ?_
                          rintro e v3 ⟨⟨s3, rfl⟩, f3⟩
                          have E3 := E2.trans (f3.mono E2.size)
                          go_wp2
                          go_roundg (m - (j + 1))
                          case measure => omega
                          case rel => exact ⟨j + 1, s3, by omega, rfl, by go_num, rfl, hbk.trans (E3.mono hbk.size)⟩
                        · have hds2 : decide ((0 : Int) ≤ s2) = false := by simp; omega
                          go_wp2
                          go_roundg (m - (j + 1))
                          case measure => omega
                          case rel => exact ⟨j + 1, s2, by omega, rfl, by go_num, rfl, hbk.trans (E2.mono hbk.size)⟩
                      · have hds1 : decide ((0 : Int) ≤ s1) = false := by simp; omega
                        go_wp2
                        go_roundg (m - (j + 1))
                        case measure => omega
                        case rel => exact ⟨j + 1, s1, by omega, rfl, by go_num, rfl, hbk.trans (E1.mono hbk.size)⟩
                  · have hdu : decide ((0 : Int) ≤ u) = false := by simp; omega
                    clear heat
                    go_wp2
                    go_roundg (n - (i + 1))
                    case measure => omega
                    case rel => exact ⟨i + 1, u, by omega, rfl, by go_num, rfl, hbr.trans (Bk.mono hbr.size)⟩
                · have hje : j = m := by omega
                  subst hje
                  clear heat
                  go_wp2
                  go_roundg (n - (i + 1))
                  case measure => omega
                  case rel => exact ⟨i + 1, u, by omega, rfl, by go_num, rfl, hbr.trans (Bk.mono hbr.size)⟩
        · have hdz : decide ((0 : Int) ≤ z) = false := by simp; omega
          clear hat
          go_wp2
          go_ret
          exact ⟨isBool_mk _, hbw⟩
      · have hie : i = n := by omega
        subst hie
        clear hat
        go_wp2
        go_ret
        exact ⟨isBool_mk _, hbw⟩

end Go.Proofs.YtplofgkofkjhdaaGreatDoor
