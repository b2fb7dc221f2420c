import Derived.Test.YtkgbmgpdehmiiaaDoorY15
import Derived.Test.YtkgbmgpdehmiiaaDoorY11
import Derived.WalkKit
import Derived.WalkSpells
import Derived.IntWalk
import Derived.Deep.Cut
import Derived.Deep.LoopGhost
import Derived.Laws.Cover1
import Derived.Lib.Hide
set_option linter.unusedVariables false
set_option linter.unusedSimpArgs false
set_option maxHeartbeats 64000000
set_option maxRecDepth 100000
namespace Go.Proofs.YtkgbmgpdehmiiaaDoor
open Go.RowKit Go.IntWalk
set_option linter.unusedVariables false
set_option linter.unusedSimpArgs false
namespace Cd
def tm (o : Option Int) : Int := o.getD 1
end Cd
theorem take21_any (b : Nat) (x y : Int) (w : World) (hx : I64 (x + y)) (k : w.heap[b]? = some (.cells #[.int .i64 x] 3 (0, 0))) : Calls Tryd.prog 53 #[.int .i64 y, .pointer (some ⟨b, 0, none⟩)] w fun e w' => e = .returned (.tuple #[]) ∧ w' = w.setCell ⟨b, 0, none⟩ (.int .i64 (x + y)) := by
  have hw := w64_in hx
  have s0 := cell_of k 0
  have f0 := free_of k 0
  simp at s0
  go_enter Tryd.func53, Tryd.ntmps53
  go_wp2
  exact bodyPost_end (v := .tuple #[]) (by simp [results, Tryd.results53, go_sem]) rfl ⟨rfl, rfl⟩
structure EachPost (w : World) (b : Nat) (l : List Cd.In) (e : Ending) (w' : World) : Prop where
  out : ∃ q x, e = .returned (.bool q) ∧ w'.heap[b]? = some (.cells #[.int .i64 x] 3 (0, 0)) ∧ Aside [b] w.heap.size w w' ∧ (q = true → Cd.go 10 11 none l = some x) ∧ (q = false → Cd.go 10 11 none l = none)
set_option maxHeartbeats 16000000 in
theorem each20_any {ok : Nat → Prop} {w : World} {aL : Option Addr} {cL b : Nat} {l : List Cd.In} (hl : HIns ok w (.slice aL l.length cL) l) (hok : ∀ i, ok i → i ≠ b) (hlen : l.length ≤ 1000000) (k : w.heap[b]? = some (.cells #[.int .i64 0] 3 (0, 0))) :
    Calls Tryd.prog 52 #[.slice aL l.length cL, .func (.func 53) #[] #[.pointer (some ⟨b, 0, none⟩)]] w (EachPost w b l) := by
  have HL := hide hl
  have HOK := hide hok
  have HLEN := hide hlen
  have K0 := hide k
  have yb := lt_of k
  obtain ⟨n, hn⟩ : ∃ n, n = l.length := ⟨_, rfl⟩
  rw [← hn]
  have HN := hide hn
  clear hl hok hlen k hn
  go_enter Tryd.func52, Tryd.ntmps52
  go_wp2_with fail
  go_loopg [5, 6, 11] n (fun k v5 v6 v11 wr => ∃ (i : Nat) (o : Option Int) (x : Int) (q : Bool) (t : Int), i ≤ n ∧ k = n - i ∧ v11 = .int .i64 (i : Nat) ∧ v5 = .bool q ∧ v6 = .int .i64 t ∧ Hid (q = o.isSome ∧ t = Cd.tm o) ∧ Hid (Cd.go 10 11 none l = (Cd.go 10 11 o (l.drop i)).map (fun y => x + y)) ∧ Hid (0 ≤ x ∧ x ≤ 300 * i ∧ ∀ m, o = some m → 1 ≤ m ∧ m ≤ 300) ∧ Hid (wr.heap[b]? = some (.cells #[.int .i64 x] 3 (0, 0))) ∧ Aside [b] w.heap.size w wr)
  case atStart => exact ⟨0, none, 0, false, 1, Nat.zero_le _, rfl, rfl, rfl, rfl, hide ⟨rfl, rfl⟩, hide (by rw [List.drop_zero]; cases Cd.go 10 11 none l <;> simp), hide ⟨by omega, by omega, fun m e => by cases e⟩, K0, Aside.refl _⟩
  case round =>
    clear K0
    obtain ⟨i, o, x, q, t, hi, rfl, rfl, rfl, rfl, HO, H, HX, HK, abr⟩ := hrel
    by_cases hlt : i < n
    case neg =>
      have hin : i = n := by omega
      subst hin
      have e1 : l.drop i = [] := List.drop_of_length_le (by have := HN.out; omega)
      have HA : Hid (q = false → Cd.go 10 11 none l = some x) := hide fun h => by
        rw [HO.out.1] at h
        rw [H.out, e1]
        cases o with
        | none => simp [Cd.go]
        | some m => cases h
      have HB : Hid (q = true → Cd.go 10 11 none l = none) := hide fun h => by
        rw [HO.out.1] at h
        rw [H.out, e1]
        cases o with
        | none => cases h
        | some m => simp [Cd.go]
      clear e1 H HX
      go_wp2
      go_ret
      exact ⟨⟨!q, x, rfl, HK.out, abr, fun h => HA.out (by simpa using h), fun h => HB.out (by simpa using h)⟩⟩
    case pos =>
      have hil : i < l.length := by have := HN.out; omega
      have hdr : l.drop i = l[i] :: l.drop (i + 1) := List.drop_eq_getElem_cons hil
      have hR1 := H.out
      rw [hdr] at hR1
      rw [Cd.go_cons] at hR1
      obtain ⟨ao', cap', eqs, -, -, hat2⟩ := (HL.out.keep abr.size (fun j hj hl => abr.block j hl (by simpa using HOK.out j hj))).at
      injection eqs with q1 q2 q3
      subst q1
      obtain ⟨bb, oo, rfl, hb, ⟨e0, e1, e2, e3, e4, e5⟩⟩ := hat2 i hil
      obtain ⟨y, hy⟩ : ∃ y, y = l[i] := ⟨_, rfl⟩
      rw [← hy] at e0 e1 e2 e3 e4 e5 hR1
      obtain ⟨op, kk, rr, aa, bq, nn⟩ := y
      dsimp only at e0 e1 e2 e3 e4 e5
      have hib : i ≤ 1000000 := by have := HLEN.out; omega
      have HR1 := hide hR1
      have hxx := HX.out
      have htm : 1 ≤ t ∧ t ≤ 300 := by
        rw [HO.out.2]
        cases o with
        | none => exact ⟨by decide, by decide⟩
        | some m => exact hxx.2.2 m rfl
      have HI : Hid (I64 (x + t)) := hide (by unfold I64; omega)
      have HTM := hide (show 0 ≤ x + t ∧ x + t ≤ 300 * (i + 1 : Nat) by omega)
      have HNX : Hid (∀ o', Cd.step 10 11 o ⟨op, kk, rr, aa, bq, nn⟩ = some (t, o') → Cd.go 10 11 none l = (Cd.go 10 11 o' (l.drop (i + 1))).map fun z => (x + t) + z) := hide fun o' h => by
        rw [HR1.out, h]
        simp only [Option.bind_some]
        cases Cd.go 10 11 o' (l.drop (i + 1)) with
        | none => rfl
        | some z => simp; omega
      have HNO : Hid (Cd.step 10 11 o ⟨op, kk, rr, aa, bq, nn⟩ = none → Cd.go 10 11 none l = none) := hide fun h => by
        rw [HR1.out, h]
        rfl
      have HOM : Hid (∀ m, o = some m → 1 ≤ m ∧ m ≤ 300) := hide hxx.2.2
      clear hat2 q2 q3 hy hdr hR1 H hxx htm HR1 HX
      have b4 : Below wr.heap.size wr (wr.alloc (.cells #[.int .i64 op, .int .i64 kk, .int .i64 rr, .int .i64 aa, .int .i64 bq, .int .i64 nn] 52 (0, 0))) := (Below.refl _ _).alloc (Nat.le_refl _) _
      have k4 := heap_new wr (.cells #[.int .i64 op, .int .i64 kk, .int .i64 rr, .int .i64 aa, .int .i64 bq, .int .i64 nn] 52 (0, 0))
      have kb4 := (b4.block _ (lt_of HK.out)).trans HK.out
      have ybr := lt_of HK.out
      go_upto_region 5 with fail
      generalize wr.alloc (.cells #[.int .i64 op, .int .i64 kk, .int .i64 rr, .int .i64 aa, .int .i64 bq, .int .i64 nn] 52 (0, 0)) = w4 at b4 k4 kb4 ⊢
      clear HK e0 e1 e2 e3 e4 e5
      go_wp2_with fail
      refine (take21_any b x t w4 HI.out kb4).mono ?_
      rintro e w5 ⟨rfl, rfl⟩
      have k5 : (w4.setCell ⟨b, 0, none⟩ (.int .i64 (x + t))).heap[wr.heap.size]? = _ := (heap_set_other w4 ⟨b, 0, none⟩ _ (by show b ≠ wr.heap.size; omega)).trans k4
      have kb5 := set_in kb4 0 (.int .i64 (x + t))
      simp at kb5
      have a5 : Aside [b] w.heap.size w (w4.setCell ⟨b, 0, none⟩ (.int .i64 (x + t))) := (abr.trans (aside (S := [b]) b4) abr.size).trans (Aside.setCell (B := w.heap.size) (p := ⟨b, 0, none⟩) (by simp) _) (Nat.le_refl _)
      have KB := hide kb5
      have A5 := hide a5
      clear k4 kb4 b4 abr kb5 a5 HI
      generalize w4.setCell ⟨b, 0, none⟩ (.int .i64 (x + t)) = w5 at k5 KB A5 ⊢
      have i0 := cell_of k5 0
      have i5 := cell_of k5 5
      simp at i0 i5
      by_cases h10 : op = 10
      case pos =>
        subst h10
        cases q
        case true =>
          have HZ : Hid (Cd.go 10 11 none l = none) := hide (HNO.out (by
            have h := HO.out.1
            cases o with
            | none => cases h
            | some m => simp [Cd.step]))
          clear HNX HNO HOM
          go_wp2
          go_ret
          exact ⟨⟨false, _, rfl, KB.out, A5.out, (fun h => by cases h), fun _ => HZ.out⟩⟩
        case false =>
          have HT := hide (fun W => turn30_any nn W)
          have HS : Hid (Cd.step 10 11 o ⟨10, kk, rr, aa, bq, nn⟩ = if Cd.turn nn = true then some (t, some nn) else none) := hide (by
            have h := HO.out
            cases o with
            | some m => cases h.1
            | none =>
              have ht : t = 1 := h.2
              subst ht
              simp [Cd.step, Cd.turn])
          have HTN : Hid (Cd.turn nn = true → 1 ≤ nn ∧ nn ≤ 300) := hide (by simp [Cd.turn])
          generalize Cd.turn nn = qt at HT HS HTN
          clear HOM
          go_wp2_with fail
          refine (HT.out _).mono ?_
          rintro e w6 ⟨rfl, rfl⟩
          cases qt
          case false =>
            have HZ : Hid (Cd.go 10 11 none l = none) := hide (HNO.out (by rw [HS.out]; simp))
            clear HNX HNO HS
            go_wp2
            go_ret
            exact ⟨⟨false, _, rfl, KB.out, A5.out, (fun h => by cases h), fun _ => HZ.out⟩⟩
          case true =>
            have HZ : Hid (Cd.go 10 11 none l = (Cd.go 10 11 (some nn) (l.drop (i + 1))).map fun z => (x + t) + z) := hide (HNX.out _ (by rw [HS.out]; simp))
            have HB := hide (HTN.out rfl)
            clear HNX HNO HS HTN HT
            have y5 := lt_of k5
            go_upto_region 10 with fail
            refine wp_region_late (fun w' => Below w6.heap.size w6 w') (fun _ => false) (by kernel_rfl) ?_
            have hH0 : Below w6.heap.size w6 w6.drew := (Below.refl _ _).drew
            generalize w6.drew = wd0 at hH0 ⊢
            refine' wpAnyL_take (i := 0) (oi := ⟨some 29, _, _, _, _, _⟩) (v := _) rfl (by kernel_rfl) (by kernel_rfl) (by kernel_rfl) (by kernel_rfl) (fun _ _ _ h => h) hH0 (by rfl) ?hyv ?o1
            case hyv =>
              intro wz hSw
              go_simp
              try rfl
            try simp only [Act.put, sT, sZ, sS]
            refine' wpAnyL_take (i := 1) (oi := ⟨some 30, _, _, _, _, _⟩) (v := _) rfl (by kernel_rfl) (by kernel_rfl) (by kernel_rfl) (by kernel_rfl) (fun _ _ _ h => h) hH0 (by rfl) ?hyv ?o2
            case hyv =>
              intro wz hSw
              have zc0 := (hSw.cell (p := ⟨wr.heap.size, 5, none⟩) y5).trans i5
              go_simp
              try rfl
            try simp only [Act.put, sT, sZ, sS]
            refine' wpAnyL_take (i := 2) (oi := ⟨some 5, _, _, _, _, _⟩) (v := _) rfl (by kernel_rfl) (by kernel_rfl) (by kernel_rfl) (by kernel_rfl) (fun _ _ _ h => h) hH0 (by rfl) ?hyv ?o3
            case hyv =>
              intro wz hSw
              go_simp
              try rfl
            try simp only [Act.put, sT, sZ, sS]
            refine' wpAnyL_take (i := 3) (oi := ⟨some 6, _, _, _, _, _⟩) (v := _) rfl (by kernel_rfl) (by kernel_rfl) (by kernel_rfl) (by kernel_rfl) (fun _ _ _ h => h) hH0 (by rfl) ?hyv ?o4
            case hyv =>
              intro wz hSw
              go_simp
              try rfl
            try simp only [Act.put, sT, sZ, sS]
            refine wpAnyL_done (by kernel_rfl) ?_ _
            go_wp2_with fail
            go_roundg (n - (i + 1))
            case measure => omega
            case rel => exact ⟨i + 1, some nn, x + t, true, nn, by omega, rfl, by go_num, rfl, rfl, hide ⟨rfl, rfl⟩, HZ, hide ⟨HTM.out.1, HTM.out.2, fun m e => by injection e with e; subst e; exact HB.out⟩, (hide ((hH0.block _ (lt_of KB.out)).trans KB.out)), (A5.out.trans (aside (S := [b]) hH0) A5.out.size)⟩
      by_cases h11 : op = 11
      case pos =>
        subst h11
        cases q
        case false =>
          have HZ : Hid (Cd.go 10 11 none l = none) := hide (HNO.out (by
            have h := HO.out.1
            cases o with
            | some m => cases h
            | none => simp [Cd.step]))
          clear HNX HNO HOM
          go_wp2
          go_ret
          exact ⟨⟨false, _, rfl, KB.out, A5.out, (fun h => by cases h), fun _ => HZ.out⟩⟩
        case true =>
          have HZ : Hid (Cd.go 10 11 none l = (Cd.go 10 11 none (l.drop (i + 1))).map fun z => (x + t) + z) := hide (HNX.out _ (by
            have h := HO.out
            cases o with
            | none => cases h.1
            | some m =>
              have ht : t = m := h.2
              subst ht
              simp [Cd.step]))
          clear HNX HNO HOM
          go_wp2_with fail
          go_roundg (n - (i + 1))
          case measure => omega
          case rel => exact ⟨i + 1, none, x + t, false, 1, by omega, rfl, by go_num, rfl, rfl, hide ⟨rfl, rfl⟩, HZ, hide ⟨HTM.out.1, HTM.out.2, fun m e => by cases e⟩, KB, A5.out⟩
      have HZ : Hid (Cd.go 10 11 none l = (Cd.go 10 11 o (l.drop (i + 1))).map fun z => (x + t) + z) := hide (HNX.out _ (by
        have h := HO.out
        cases o with
        | none =>
          have ht : t = 1 := h.2
          subst ht
          simp [Cd.step, h10, h11]
        | some m =>
          have ht : t = m := h.2
          subst ht
          simp [Cd.step, h10, h11]))
      have g10 : (op == 10) = false := by simpa using h10
      have g11 : (op == 11) = false := by simpa using h11
      clear HNX HNO h10 h11
      go_wp2_with fail
      go_roundg (n - (i + 1))
      case measure => omega
      case rel => exact ⟨i + 1, o, x + t, q, t, by omega, rfl, by go_num, rfl, rfl, HO, HZ, hide ⟨HTM.out.1, HTM.out.2, HOM.out⟩, KB, A5.out⟩
end Go.Proofs.YtkgbmgpdehmiiaaDoor
