import Derived.Test.YtfipfdpohkafaaaDoorQ43
import Derived.Test.YtfipfdpohkafaaaDoorQ42
import Derived.Test.YtfipfdpohkafaaaDoorQ31
import Derived.WalkKit
import Derived.WalkSpells
import Derived.IntWalk
import Derived.Deep.Cut
import Derived.Deep.LoopGhost
import Derived.Laws.Cover1
import Derived.Lib.Hide
set_option linter.unusedVariables false
set_option linter.unusedSimpArgs false
set_option maxHeartbeats 64000000
set_option maxRecDepth 100000
namespace Go.Proofs.YtfipfdpohkafaaaDoor
open Go.RowKit Go.IntWalk
set_option linter.unusedVariables false
set_option linter.unusedSimpArgs false
theorem mod_ok (cut : Int) (m : Nat) (h : 0 < m) (hm : m ≤ maxLen) : ∃ q : Nat, wrap64 ((IntKind.u64.wrap cut).tmod (m : Int)) = (q : Int) ∧ q < m := by
  unfold maxLen at hm
  have h0 : 0 ≤ IntKind.u64.wrap cut := by simp [IntKind.wrap, IntKind.signed, IntKind.bits]; omega
  rw [Int.tmod_eq_emod_of_nonneg h0]
  have h1 := Int.emod_nonneg (IntKind.u64.wrap cut) (b := (m : Int)) (by omega)
  have h2 := Int.emod_lt_of_pos (IntKind.u64.wrap cut) (b := (m : Int)) (by omega)
  generalize IntKind.u64.wrap cut % (m : Int) = r at *
  refine ⟨r.toNat, ?_, by omega⟩
  unfold wrap64
  omega
theorem more_join {B : Nat} {w : World} {v u : Value} {l r : List Cd.In} {okr : Nat → Prop} (ty : TypeId) (hown : OwnL kIn B w v l) (hr : HIns okr w u r) (hap : ∀ k, v.ownBlock = some k → ¬ okr k) (hlen : l.length + r.length ≤ 1000000) (hB : B ≤ w.heap.size) :
    ∃ a c w', (Builtin.append_ #[23, 23] ty #[v, u]).run Tryd.prog w = .ok (.slice a (l ++ r).length c) w' ∧ OwnL kIn B w' (.slice a (l ++ r).length c) (l ++ r) ∧ Below B w w' := by
  obtain ⟨v', w', h1, h2, h3, h4⟩ := run_joinO kIn 23 ty Tryd.underlying23 (ownX_of hown) hr hap (by show (l.length + r.length) * 48 ≤ _; omega) (by unfold maxLen; omega)
  obtain ⟨a, c, rfl, -, -⟩ := h2.form
  refine ⟨a, c, w', h1, ownL_plain h2 (fun k hk => ?_) (fun _ _ _ _ _ h => h), grown_low h3 (fun k hk => (hown.lt k hk).1) hB⟩
  rcases h4 with h | ⟨q, hq, hq2⟩
  · rw [h] at hk; exact (hown.lt k hk).1
  · rw [hq] at hk; injection hk with hk; omega
theorem one_row {ok : Nat → Prop} {w : World} {b : Nat} {i : Cd.In} (k : w.heap[b]? = some (.cells #[.int .i64 i.op, .int .i64 i.k, .int .i64 i.r, .int .i64 i.a, .int .i64 i.b, .int .i64 i.n] 35 (0, 0))) (hob : ok b) : HIns ok w (.slice (some ⟨b, 0, none⟩) 1 1) [i] :=
  blk_row kIn (l := [i]) k (fun _ => i.cs) (fun j hj => ⟨rfl, fun q hq => by
    have h1 : j = 0 := by simpa using hj
    subst h1
    rcases lt6 (show q < 6 from hq) with rfl | rfl | rfl | rfl | rfl | rfl <;> rfl⟩) (fun j hj => by
    have h1 : j = 0 := by simpa using hj
    subst h1
    rfl) hob (show 1 ≤ maxLen by decide)
set_option maxHeartbeats 32000000 in
theorem codeCosts4_any {oka okb : Nat → Prop} {w : World} {aA aB : Option Addr} {cA cB : Nat} {a b : List Cd.In} {n : Int} (hK : GlobK w) (hA : HIns oka w (.slice aA a.length cA) a) (hB : HIns okb w (.slice aB b.length cB) b) : Calls Tryd.prog 4 #[.slice aA a.length cA, .slice aB b.length cB, .int .i64 n] w fun e w' => e = .returned (.bool true) ∧ Below w.heap.size w w' := by
  have HK := hide hK
  have HA := hide (hA.wide (ok' := fun i => i < w.heap.size) fun i _ h => h)
  have HB := hide (hB.wide (ok' := fun i => i < w.heap.size) fun i _ h => h)
  obtain ⟨zA, zC, -, zc1, zc2, -⟩ := hA.at
  have hnm : a.length ≤ 9223372036854775807 := by unfold maxLen at zc2; omega
  obtain ⟨na, hna⟩ : ∃ n, n = a.length := ⟨_, rfl⟩
  obtain ⟨nb, hnb⟩ : ∃ n, n = b.length := ⟨_, rfl⟩
  have HNA := hide hna
  have HNB := hide hnb
  rw [← hna] at hnm
  rw [← hna, ← hnb]
  clear hK hA hB hna hnb zc1 zc2
  go_enter Tryd.func4, Tryd.ntmps4
  go_wp2_with fail
  refine (codeBegun5_any HK.out).mono ?_
  rintro e w2 ⟨rfl, b2⟩
  by_cases h1 : 5000 < (na : Int)
  case pos =>
    go_wp2
    go_ret
    exact ⟨rfl, b2⟩
  by_cases h2 : 5000 < (nb : Int)
  case pos =>
    go_wp2
    go_ret
    exact ⟨rfl, b2⟩
  have hl : na ≤ 5000 ∧ nb ≤ 5000 := by omega
  have HLEN := hide hl
  obtain ⟨X, hX⟩ : ∃ X, X = Cd.cost 10 11 a := ⟨_, rfl⟩
  obtain ⟨Y, hY⟩ : ∃ Y, Y = Cd.cost 10 11 b := ⟨_, rfl⟩
  have HX := hide hX
  have HY := hide hY
  have HXB := hide (show 0 ≤ X ∧ X ≤ 300 * (a.length : Int) by
    rw [hX]; refine ⟨Cd.cost_nonneg _ _ _, ?_⟩
    unfold Cd.cost
    cases h : Cd.go 10 11 none a with
    | none => show (0 : Int) ≤ _; omega
    | some q => exact Cd.go_le a none q (fun m e => by cases e) h)
  have HYB := hide (show 0 ≤ Y ∧ Y ≤ 300 * (b.length : Int) by
    rw [hY]; refine ⟨Cd.cost_nonneg _ _ _, ?_⟩
    unfold Cd.cost
    cases h : Cd.go 10 11 none b with
    | none => show (0 : Int) ≤ _; omega
    | some q => exact Cd.go_le b none q (fun m e => by cases e) h)
  have HCA := hide (fun (W : World) (bb : Below w.heap.size w W) => (show Calls Tryd.prog 10 #[.slice aA na cA] W fun e w' => e = .returned (.int .i64 X) ∧ Below W.heap.size W w' by rw [hX, HNA.out]; exact cost10_any (HA.out.under bb) (by have := HNA.out; omega)))
  have HCB := hide (fun (W : World) (bb : Below w.heap.size w W) => (show Calls Tryd.prog 10 #[.slice aB nb cB] W fun e w' => e = .returned (.int .i64 Y) ∧ Below W.heap.size W w' by rw [hY, HNB.out]; exact cost10_any (HB.out.under bb) (by have := HNB.out; omega)))
  clear hX hY hl
  go_wp2_with fail
  refine (HCA.out w2 b2).mono ?_
  rintro e w3 ⟨rfl, b3⟩
  have B3 := b2.trans (b3.mono b2.size)
  go_wp2_with fail
  refine (HCB.out w3 B3).mono ?_
  rintro e w4 ⟨rfl, b4⟩
  have B4 := B3.trans (b4.mono B3.size)
  clear HCA HCB h1 h2
  -- both, one behind the other
  have hA4 : HIns (fun i => i < w.heap.size) w4 (.slice aA na cA) a := by have h := HA.out.under B4; rw [← HNA.out] at h; exact h
  obtain ⟨a5, c5, w5, r5, o5, b5⟩ := nil_join kIn (w := w4) 23 23 Tryd.underlying23 hA4 (fun _ _ _ _ _ h => h) (by show a.length * 48 ≤ _; have := HNA.out; have := HLEN.out; omega) (by unfold maxLen; have := HNA.out; have := HLEN.out; omega)
  have B5 := B4.trans (b5.mono B4.size)
  have hB5 : HIns (fun i => i < w.heap.size) w5 (.slice aB nb cB) b := by have h := HB.out.under B5; rw [← HNB.out] at h; exact h
  obtain ⟨a6, c6, w6, r6, o6, b6⟩ := more_join 23 o5 hB5 (fun k h1 h2 => by have h3 := (o5.lt k h1).1; have h4 := B4.size; have h5 : k < w.heap.size := h2; omega) (by have := HNA.out; have := HNB.out; have := HLEN.out; omega) b5.size
  have B6 := B5.trans (b6.mono B4.size)
  rw [← HNA.out] at r5 r6
  have H6 := hide o6.row
  obtain ⟨n6, hn6⟩ : ∃ n, n = (a ++ b).length := ⟨_, rfl⟩
  rw [← hn6] at r6
  have HN6 := hide hn6
  clear hn6 o5 o6 hA4 hB5
  go_upto_region 8 with (at_builtin; first | (refine wpList_joinO rfl _ _ 23 rfl _ _ _ (by rfl) (by rfl) r5 ?_; clear r5) | (refine wpList_joinO rfl _ _ 23 rfl _ _ _ (by rfl) (by rfl) r6 ?_; clear r6))
  clear b5 b6 b4 b3 b2
  have HC6 := hide (fun (hx : 0 < X) (hy : 0 < Y) => (show Calls Tryd.prog 10 #[.slice a6 n6 c6] w6 fun e w' => e = .returned (.int .i64 (X + Y)) ∧ Below w6.heap.size w6 w' by
    have h := H6.out
    have h7 := cost10_any (ok := fun i => w4.heap.size ≤ i) (w := w6) (aL := a6) (cL := c6) (l := a ++ b) h (by rw [List.length_append]; have := HNA.out; have := HNB.out; have := HLEN.out; omega)
    rw [Cd.cost_append (by rw [← HX.out]; exact hx) (by rw [← HY.out]; exact hy), ← HX.out, ← HY.out, ← HN6.out] at h7
    exact h7))
  have hw6 : wrap64 (X + Y) = X + Y := w64_in (by have := HXB.out; have := HYB.out; have := HNA.out; have := HNB.out; have := HLEN.out; unfold I64; omega)
  go_cut [55] (fun v wd => v = .bool false ∧ Below w6.heap.size w6 wd)
  case first =>
    by_cases g1 : 0 < (na : Int)
    case neg =>
      go_wp2
      go_meet
      case rel => exact ⟨rfl, Below.refl _ _⟩
    by_cases g2 : 0 < (nb : Int)
    case neg =>
      go_wp2
      go_meet
      case rel => exact ⟨rfl, Below.refl _ _⟩
    by_cases g3 : X > 0
    case neg =>
      go_wp2
      go_meet
      case rel => exact ⟨rfl, Below.refl _ _⟩
    by_cases g4 : Y > 0
    case neg =>
      go_wp2
      go_meet
      case rel => exact ⟨rfl, Below.refl _ _⟩
    have HCC := hide (HC6.out g3 g4)
    clear HC6
    go_wp2_with fail
    refine HCC.out.mono ?_
    rintro e w7 ⟨rfl, b7⟩
    go_wp2_with fail
    go_meet
    case rel => exact ⟨by simp, b7⟩
  case rest =>
    obtain ⟨rfl, bc⟩ := hcut
    have Bc := B6.trans (bc.mono B6.size)
    clear HC6 hw6 H6 bc
    obtain ⟨w7, hw7⟩ : ∃ w7, w7 = wc := ⟨_, rfl⟩
    subst hw7
    go_wp2_with fail
    go_loopg [10] na (fun k v wr => ∃ i, i ≤ na ∧ k = na - i ∧ v = .int .i64 (i : Nat) ∧ Hid (∀ j (h : j < a.length), j < i → (a[j]).op ≠ 10 ∧ (a[j]).op ≠ 11) ∧ Below w7.heap.size w7 wr)
    case atStart => exact ⟨0, Nat.zero_le _, rfl, rfl, hide (fun j h hj => absurd hj (Nat.not_lt_zero _)), Below.refl _ _⟩
    case round =>
      obtain ⟨i, hi, rfl, rfl, H, hbr⟩ := hrel
      have Br := Bc.trans (hbr.mono Bc.size)
      by_cases hlt : i < na
      case pos =>
        have hil : i < a.length := by have := HNA.out; omega
        obtain ⟨ao', cap', eqs, -, -, hat2⟩ := (HA.out.under Br).at
        rw [← HNA.out] at eqs
        injection eqs with q1 q2 q3
        subst q1
        obtain ⟨bb, o, rfl, hb, ⟨e0, e1, e2, e3, e4, e5⟩⟩ := hat2 i hil
        obtain ⟨y, hy⟩ : ∃ y, y = (a[i]).op := ⟨_, rfl⟩
        rw [← hy] at e0
        have HNX := hide (fun (g1 : y ≠ 10) (g2 : y ≠ 11) j (h : j < a.length) (hj : j < i + 1) => (show (a[j]).op ≠ 10 ∧ (a[j]).op ≠ 11 by
          by_cases e : j = i
          · subst e; rw [← hy]; exact ⟨g1, g2⟩
          · exact H.out j h (by omega)))
        clear hat2 q2 q3 e1 e2 e3 e4 e5 H hil hy
        have hx0 : 0 ≤ X := HXB.out.1
        by_cases g1 : y = 10
        case pos =>
          subst g1
          go_wp2
          go_ret
          exact ⟨by simp [hx0], Br⟩
        by_cases g2 : y = 11
        case pos =>
          subst g2
          go_wp2
          go_ret
          exact ⟨by simp [hx0], Br⟩
        have HN2 := hide (HNX.out g1 g2)
        have f1 : (y == 10) = false := by simpa using g1
        have f2 : (y == 11) = false := by simpa using g2
        clear HNX g1 g2 hx0
        go_wp2_with fail
        go_roundg (na - (i + 1))
        case measure => omega
        case rel => exact ⟨i + 1, by omega, rfl, by go_num, HN2, hbr⟩
      case neg =>
        have hin : i = na := by omega
        have HPL := hide (show Cd.plain 10 11 a from fun s hs => by
          obtain ⟨j, hj, rfl⟩ := List.getElem_of_mem hs
          exact H.out j hj (by have := HNA.out; omega))
        clear H hin
        have HXN := hide (show X = (na : Int) by rw [HX.out, Cd.cost_plain HPL.out, HNA.out])
        obtain ⟨q, hq, hq2⟩ := mod_ok n 300 (by decide) (by decide)
        have HQ := hide hq
        have hkw : wrap64 (1 + (q : Int)) = 1 + (q : Int) := w64_in (by unfold I64; omega)
        have HKW := hide hkw
        clear hq hkw
        go_upto_region 16 with fail
        rw [show ((300 : Nat) : Int) = 300 from rfl] at HQ
        rw [HQ.out, HKW.out]
        clear HQ HKW
        obtain ⟨kk, hkk⟩ : ∃ kk : Int, kk = 1 + (q : Int) := ⟨_, rfl⟩
        rw [← hkk]
        have HKK := hide (show 1 ≤ kk ∧ kk ≤ 300 by omega)
        clear hkk hq2
        obtain ⟨w8, hw8⟩ : ∃ w8, w8 = wr := ⟨_, rfl⟩
        subst hw8
        -- the loop's head
        have b9 : Below w8.heap.size w8 (w8.alloc (.cells #[.int .i64 10, .int .i64 0, .int .i64 0, .int .i64 0, .int .i64 0, .int .i64 kk] 35 (0, 0))) := (Below.refl _ _).alloc (Nat.le_refl _) _
        have k9 := heap_new w8 (.cells #[.int .i64 10, .int .i64 0, .int .i64 0, .int .i64 0, .int .i64 0, .int .i64 kk] 35 (0, 0))
        have h9 := one_row (ok := fun i => i = w8.heap.size) (i := ⟨10, 0, 0, 0, 0, kk⟩) k9 rfl
        have B9 := Br.trans (b9.mono Br.size)
        obtain ⟨aX, cX, wX, rX, oX, bX⟩ := nil_join kIn (w := w8.alloc (.cells #[.int .i64 10, .int .i64 0, .int .i64 0, .int .i64 0, .int .i64 0, .int .i64 kk] 35 (0, 0))) 23 23 Tryd.underlying23 h9 (fun _ _ _ _ _ h => h) (by show 1 * 48 ≤ 140737488355328; omega) (by show 1 ≤ maxLen; unfold maxLen; omega)
        have BX := B9.trans (bX.mono B9.size)
        have rX2 : (Builtin.append_ #[23, 23] 23 #[.slice none 0 0, .slice (some ⟨w8.heap.size, 0, none⟩) 1 1]).run Tryd.prog (w8.alloc (.cells #[.int .i64 10, .int .i64 0, .int .i64 0, .int .i64 0, .int .i64 0, .int .i64 kk] 35 (0, 0))) = .ok (.slice aX 1 cX) wX := rX
        have hAX : HIns (fun i => i < w.heap.size) wX (.slice aA na cA) a := by have h := HA.out.under BX; rw [← HNA.out] at h; exact h
        have zz := Br.size
        have zb9 := b9.size
        obtain ⟨aY, cY, wY, rY, oY, bY⟩ := more_join 23 oX hAX (fun k h1 h2 => by have h3 := (oX.lt k h1).1; have h5 : k < w.heap.size := h2; omega) (by simp; have := HNA.out; have := HLEN.out; omega) bX.size
        have BY := BX.trans (bY.mono B9.size)
        obtain ⟨LY, hLY⟩ : ∃ L, L = [(⟨10, 0, 0, 0, 0, kk⟩ : Cd.In)] ++ a := ⟨_, rfl⟩
        rw [← hLY] at rY oY
        have HLY := hide hLY
        obtain ⟨nY, hnY⟩ : ∃ n, n = LY.length := ⟨_, rfl⟩
        have HNY := hide hnY
        have hle : LY.length ≤ 5001 := by rw [hLY]; simp; have := HNA.out; have := HLEN.out; omega
        have rY2 : (Builtin.append_ #[23, 23] 23 #[.slice aX 1 cX, .slice aA na cA]).run Tryd.prog wX = .ok (.slice aY nY cY) wY := by rw [hnY]; exact rY
        -- the loop's end
        have bE : Below wY.heap.size wY (wY.alloc (.cells #[.int .i64 11, .int .i64 0, .int .i64 0, .int .i64 0, .int .i64 0, .int .i64 0] 35 (0, 0))) := (Below.refl _ _).alloc (Nat.le_refl _) _
        have kE := heap_new wY (.cells #[.int .i64 11, .int .i64 0, .int .i64 0, .int .i64 0, .int .i64 0, .int .i64 0] 35 (0, 0))
        have hE := one_row (ok := fun i => i = wY.heap.size) (i := ⟨11, 0, 0, 0, 0, 0⟩) kE rfl
        have oYE := oY.below bE
        have zE := bE.size
        have zY := bY.size
        have zX := bX.size
        have hltY : ∀ k, (Value.slice aY LY.length cY).ownBlock = some k → k < wY.heap.size := fun k h => (oY.lt k h).2
        obtain ⟨aF, cF, wF, rF, oF, bF⟩ := more_join 23 oYE hE (fun k h1 h2 => by have h3 := hltY k h1; omega) (by simp; omega) (by omega)
        have BF := (BY.trans (bE.mono BY.size)).trans (bF.mono B9.size)
        obtain ⟨LF, hLF⟩ : ∃ L, L = LY ++ [(⟨11, 0, 0, 0, 0, 0⟩ : Cd.In)] := ⟨_, rfl⟩
        rw [← hLF] at rF oF
        obtain ⟨nF, hnF⟩ : ∃ n, n = LF.length := ⟨_, rfl⟩
        have rF2 : (Builtin.append_ #[23, 23] 23 #[.slice aY nY cY, .slice (some ⟨wY.heap.size, 0, none⟩) 1 1]).run Tryd.prog (wY.alloc (.cells #[.int .i64 11, .int .i64 0, .int .i64 0, .int .i64 0, .int .i64 0, .int .i64 0] 35 (0, 0))) = .ok (.slice aF nF cF) wF := by rw [hnF, hnY]; exact rF
        have HC := hide (show Calls Tryd.prog 10 #[.slice aF nF cF] wF fun e w' => e = .returned (.int .i64 (1 + kk * (X + 1))) ∧ Below wF.heap.size wF w' by
          have h7 := cost10_any (w := wF) (aL := aF) (cL := cF) (l := LF) oF.row (by rw [hLF]; simp; omega)
          have e : Cd.cost 10 11 LF = 1 + kk * (X + 1) := by
            rw [hLF, hLY, List.singleton_append, List.cons_append, Cd.cost_around HPL.out rfl rfl (by decide) HKK.out, HXN.out, HNA.out]
          rw [e, ← hnF] at h7
          exact h7)
        clear rX rY rF oX oY oYE oF hAX hE h9 hLY hnY hLF hnF hle bX bY bE bF b9 B9 BX BY k9 kE hltY zz zb9 zE zY zX HLY HNY HPL
        go_upto_region 19 with (at_builtin; first | (refine wpList_joinO rfl _ _ 23 rfl _ _ _ (by rfl) (by rfl) rX2 ?_; clear rX2) | (refine wpList_joinO rfl _ _ 23 rfl _ _ _ (by rfl) (by rfl) rY2 ?_; clear rY2) | (refine wpList_joinO rfl _ _ 23 rfl _ _ _ (by rfl) (by rfl) rF2 ?_; clear rF2))
        have hxe : (X == (na : Int)) = true := by rw [HXN.out]; simp
        have hxb : 0 ≤ X ∧ X ≤ 5000 := by have := HXN.out; have := HLEN.out; omega
        have hm1 : 0 ≤ kk * (X + 1) := Int.mul_nonneg (by have := HKK.out; omega) (by omega)
        have hm2 : kk * (X + 1) ≤ 300 * (X + 1) := Int.mul_le_mul_of_nonneg_right HKK.out.2 (by omega)
        have hw1 : wrap64 (X + 1) = X + 1 := w64_in (by unfold I64; omega)
        have hw2 : wrap64 (kk * (X + 1)) = kk * (X + 1) := w64_in (by generalize kk * (X + 1) = p at hm1 hm2 ⊢; unfold I64; omega)
        have hw3 : wrap64 (1 + kk * (X + 1)) = 1 + kk * (X + 1) := w64_in (by generalize kk * (X + 1) = p at hm1 hm2 ⊢; unfold I64; omega)
        clear hxb hm1 hm2
        go_wp2_with fail
        refine HC.out.mono ?_
        rintro e wG ⟨rfl, bG⟩
        go_wp2
        go_ret
        exact ⟨by simp [hw1, hw2, hw3], BF.trans (bG.mono BF.size)⟩
end Go.Proofs.YtfipfdpohkafaaaDoor
