/-
  DERIVED. Declarations as data; THE WALKS of their comparisons.
-/
import Derived.Test.YtplofgkofkjhdaaGreatDoorSm3
namespace Go.Proofs.YtplofgkofkjhdaaGreatDoor
open Go.RowKit Go.IntWalk
set_option linter.unusedVariables false
set_option linter.unusedSimpArgs false
set_option maxRecDepth 100000

def deq (a b : De) : Bool := seq a.name b.name && (a.elem == b.elem) && eqL teq a.n b.n
theorem deq_refl (a : De) : deq a a = true := by simp [deq, seq_refl, eqL_refl a.n (fun x _ => teq_refl x)]

/-- a slice of declarations -/
def HDes (ok : Nat → Prop) (w : World) (v : Value) (l : List De) : Prop := ∃ C, Sl ok 3 w v l.length C ∧ ∀ i (h : i < l.length), ∃ u, C i = [.string (l[i]).name, .int .u8 (l[i]).elem, u] ∧ HTerms ok w u (l[i]).n
theorem HDes.keep {ok : Nat → Prop} {w w' : World} {v : Value} {l : List De} (h : HDes ok w v l) (hs : w.heap.size ≤ w'.heap.size) (hk : ∀ i, ok i → i < w.heap.size → w'.heap[i]? = w.heap[i]?) : HDes ok w' v l := by
  obtain ⟨C, h1, h2⟩ := h
  refine ⟨C, h1.keep hs hk, fun i hi => ?_⟩
  obtain ⟨u, e, ht⟩ := h2 i hi
  exact ⟨u, e, ht.keep hs hk⟩
theorem HDes.under {ok : Nat → Prop} {w w' : World} {v : Value} {l : List De} (h : HDes ok w v l) (a : Below w.heap.size w w') : HDes ok w' v l := h.keep a.size fun i _ hl => a.block i hl
theorem HTerms.form {ok : Nat → Prop} {w : World} {v : Value} {l : List Tm} (h : HTerms ok w v l) : ∃ a n c, v = .slice a n c := by
  obtain ⟨_, ⟨au, cu, rfl, _⟩, _⟩ := h
  exact ⟨_, _, _, rfl⟩
theorem HDes.at {ok : Nat → Prop} {w : World} {v : Value} {l : List De} (h : HDes ok w v l) :
    ∃ ao cap, v = .slice ao l.length cap ∧ l.length ≤ cap ∧ cap ≤ maxLen ∧ ∀ i (h : i < l.length), ∃ b o au nu cu, ao = some ⟨b, o, none⟩ ∧ b < w.heap.size ∧ w.cell? ⟨b, o + i * 3, none⟩ = some (.string (l[i]).name) ∧ w.cell? ⟨b, o + i * 3 + 1, none⟩ = some (.int .u8 (l[i]).elem) ∧ w.cell? ⟨b, o + i * 3 + 2, none⟩ = some (.slice au nu cu) ∧ HTerms ok w (.slice au nu cu) (l[i]).n := by
  obtain ⟨C, ⟨ao, cap, hv, h1, h2, h3⟩, hC⟩ := h
  refine ⟨ao, cap, hv, h1, h2, fun i hi => ?_⟩
  obtain ⟨b, o, ha, hob, hb, hc⟩ := h3 (by omega)
  obtain ⟨u, hu, ht⟩ := hC i hi
  have t0 := (hc i hi).2 0 (by decide)
  have t1 := (hc i hi).2 1 (by decide)
  have t2 := (hc i hi).2 2 (by decide)
  rw [hu] at t0 t1 t2
  obtain ⟨au, nu, cu, rfl⟩ := ht.form
  exact ⟨b, o, au, nu, cu, ha, hb, by simpa using t0, by simpa using t1, by simpa using t2, ht⟩

set_option maxHeartbeats 4000000 in
theorem sameDecl_any {ok ok' : Nat → Prop} {w : World} {a b : De} {au au' : Option Addr} {nu cu nu' cu' : Nat} (ha : HTerms ok w (.slice au nu cu) a.n) (hb : HTerms ok' w (.slice au' nu' cu') b.n) :
    Calls Tryz.prog 53 #[.agg #[.string a.name, .int .u8 a.elem, .slice au nu cu], .agg #[.string b.name, .int .u8 b.elem, .slice au' nu' cu']] w fun e w' => e = .returned (.bool (deq a b)) ∧ Below w.heap.size w w' := by
  obtain ⟨R, hR⟩ : ∃ R, R = deq a b := ⟨_, rfl⟩
  rw [← hR]
  unfold deq at hR
  have hB : ∀ o o', Below w.heap.size w ((w.alloc o).alloc o') := fun o o' => ((Below.refl _ w).alloc (Nat.le_refl _) o).alloc (by simp) o'
  have hcall := fun o o' => sameSize_any (ha.under (hB o o')) (hb.under (hB o o'))
  obtain ⟨an, ae, al⟩ := a
  obtain ⟨bn, be, bl⟩ := b
  simp only at hR hcall ⊢
  unfold seq at hR
  cases h0 : (an.toList == bn.toList)
  · have : R = false := by rw [hR, h0]; rfl
    subst this
    clear hR hcall
    go_enter Tryz.func53, Tryz.ntmps53
    go_wp2
    go_ret
    exact ⟨rfl, hB _ _⟩
  · cases h1 : (ae == be)
    · have : R = false := by rw [hR, h0, h1]; rfl
      subst this
      clear hR hcall
      go_enter Tryz.func53, Tryz.ntmps53
      go_wp2
      go_ret
      exact ⟨rfl, hB _ _⟩
    · have h3 : R = eqL teq al bl := by rw [hR, h0, h1]; rfl
      subst h3
      clear hR
      go_enter Tryz.func53, Tryz.ntmps53
      go_wp2_with fail
      refine (hcall _ _).mono ?_
      rintro e w1 ⟨rfl, b1⟩
      have hb1 := (hB _ _).trans (b1.mono (by simp; omega))
      clear hcall
      go_wp2
      go_ret
      exact ⟨rfl, hb1⟩

set_option maxHeartbeats 8000000 in
theorem equalDecls_any {ok ok' : Nat → Prop} {w : World} {v u : Value} {l r : List De} (hl : HDes ok w v l) (hr : HDes ok' w u r) :
    Calls Tryz.prog 52 #[v, u, .func (.func 53) #[] #[]] w fun e w' => e = .returned (.bool (eqL deq l r)) ∧ Below w.heap.size w w' := by
  obtain ⟨ao, cap, rfl, hc1, hc2, hat⟩ := hl.at
  obtain ⟨ao', cap', rfl, hd1, hd2, hat'⟩ := hr.at
  unfold maxLen at hc2 hd2
  obtain ⟨R, hR⟩ : ∃ R, R = eqL deq l r := ⟨_, rfl⟩
  rw [← hR]
  have HR := hide hR
  clear hR hl hr
  obtain ⟨n, hn⟩ : ∃ n, n = l.length := ⟨_, rfl⟩
  obtain ⟨m, hm⟩ : ∃ m, m = r.length := ⟨_, rfl⟩
  rw [← hn] at hc1 ⊢
  rw [← hm] at hd1 ⊢
  have HN := hide hn
  have HM := hide hm
  by_cases hlen : n = m
  · subst hlen
    have hq : ((n : Int) != (n : Int)) = false := by simp
    clear hn hm
    go_enter Tryz.func52, Tryz.ntmps52
    go_wp2
    go_loopg [17] n (fun k v wr => ∃ i, i ≤ n ∧ k = n - i ∧ v = .int .i64 (i : Nat) ∧ Hid (∀ j (h : j < l.length) (h' : j < r.length), j < i → deq l[j] r[j] = true) ∧ Below w.heap.size w wr)
    case atStart => exact ⟨0, Nat.zero_le _, rfl, rfl, fun j _ _ h => absurd h (Nat.not_lt_zero _), Below.refl _ _⟩
    case round =>
      obtain ⟨i, hi, rfl, rfl, H, hbr⟩ := hrel
      by_cases hlt : i < n
      · have hil : i < l.length := by have := HN.out; omega
        have hir : i < r.length := by have := HM.out; omega
        obtain ⟨b, o, au, nu, cu, rfl, hb, hc, hd, he, ht⟩ := hat i hil
        obtain ⟨b', o', au', nu', cu', rfl, hb', hc', hd', he', ht'⟩ := hat' i hir
        have e1 := (hbr.cell (p := ⟨b, o + i * 3, none⟩) hb).trans hc
        have e2 := (hbr.cell (p := ⟨b', o' + i * 3, none⟩) hb').trans hc'
        have e3 := (hbr.cell (p := ⟨b, o + i * 3 + 1, none⟩) hb).trans hd
        have e4 := (hbr.cell (p := ⟨b', o' + i * 3 + 1, none⟩) hb').trans hd'
        have e5 := (hbr.cell (p := ⟨b, o + i * 3 + 2, none⟩) hb).trans he
        have e6 := (hbr.cell (p := ⟨b', o' + i * 3 + 2, none⟩) hb').trans he'
        have zb : b < wr.heap.size := Nat.lt_of_lt_of_le hb hbr.size
        have zb' : b' < wr.heap.size := Nat.lt_of_lt_of_le hb' hbr.size
        have f2 := fun o => ((Below.refl _ wr).alloc (Nat.le_refl _) o).cell (p := ⟨b', o' + i * 3, none⟩) zb' |>.trans e2
        have f4 := fun o => ((Below.refl _ wr).alloc (Nat.le_refl _) o).cell (p := ⟨b', o' + i * 3 + 1, none⟩) zb' |>.trans e4
        have f6 := fun o => ((Below.refl _ wr).alloc (Nat.le_refl _) o).cell (p := ⟨b', o' + i * 3 + 2, none⟩) zb' |>.trans e6
        have hB : ∀ o o', Below wr.heap.size wr ((wr.alloc o).alloc o') := fun o o' => ((Below.refl _ wr).alloc (Nat.le_refl _) o).alloc (by simp) o'
        have g1 := ht.under hbr
        have g2 := ht'.under hbr
        clear hc hc' hd hd' he he' ht ht'
        clear hat hat'
        cases hxy : deq l[i] r[i]
        ·
          go_wp2_with fail
          refine (sameDecl_any (g1.under (hB _ _)) (g2.under (hB _ _))).mono ?_
          rintro e w1 ⟨rfl, b1⟩
          rw [hxy]
          all_goals
            have hb1 := hbr.trans (((hB _ _).trans (b1.mono (by simp; omega))).mono hbr.size)
            go_wp2
            go_ret
            refine ⟨ret_bool ?_, hb1⟩
            rw [HR.out]
            exact (eqL_bad i hil hir hxy).symm
        ·
          go_wp2_with fail
          refine (sameDecl_any (g1.under (hB _ _)) (g2.under (hB _ _))).mono ?_
          rintro e w1 ⟨rfl, b1⟩
          rw [hxy]
          all_goals
            have hb1 := hbr.trans (((hB _ _).trans (b1.mono (by simp; omega))).mono hbr.size)
            go_wp2
            go_roundg (n - (i + 1))
            case measure => omega
            case rel =>
              refine ⟨i + 1, by omega, rfl, by go_num, fun j hj hj' hji => ?_, hb1⟩
              by_cases e : j = i
              · subst e
                exact hxy
              · exact H.out j hj hj' (by omega)
      · have hie : i = n := by omega
        subst hie
        clear hat hat'
        go_wp2
        go_ret
        refine ⟨ret_bool ?_, hbr⟩
        rw [HR.out]
        exact (eqL_all (by rw [← HN.out, ← HM.out]) (fun j hj hj' => H.out j hj hj' (by rw [HN.out]; exact hj))).symm
  · have hq : ((n : Int) != (m : Int)) = true := by simp; omega
    clear hat hat' hn hm
    go_enter Tryz.func52, Tryz.ntmps52
    go_wp2
    go_ret
    refine ⟨ret_bool ?_, Below.refl _ _⟩
    rw [HR.out]
    exact (eqL_len (by rw [← HN.out, ← HM.out]; exact hlen)).symm

set_option maxHeartbeats 16000000 in
theorem refDecls_any {ok ok' : Nat → Prop} {w : World} {v u : Value} {l r : List De} (hl : HDes ok w v l) (hr : HDes ok' w u r) :
    Calls Tryz.prog 20 #[v, u] w fun e w' => e = .returned (.bool (eqL deq l r)) ∧ ∃ m, w' = w.drewN m := by
  obtain ⟨ao, cap, rfl, hc1, hc2, hat⟩ := hl.at
  obtain ⟨ao', cap', rfl, hd1, hd2, hat'⟩ := hr.at
  unfold maxLen at hc2 hd2
  obtain ⟨R, hR⟩ : ∃ R, R = eqL deq l r := ⟨_, rfl⟩
  rw [← hR]
  have HR := hide hR
  clear hR hl hr
  obtain ⟨n, hn⟩ : ∃ n, n = l.length := ⟨_, rfl⟩
  obtain ⟨m, hm⟩ : ∃ m, m = r.length := ⟨_, rfl⟩
  rw [← hn] at hc1 ⊢
  rw [← hm] at hd1 ⊢
  have HN := hide hn
  have HM := hide hm
  by_cases hlen : n = m
  · subst hlen
    have hq : ((n : Int) != (n : Int)) = false := by simp
    clear hn hm
    go_enter Tryz.func20, Tryz.ntmps20
    go_wp2
    go_loopg [5] n (fun k v wr => ∃ i d, i ≤ n ∧ k = n - i ∧ v = .int .i64 (i : Nat) ∧ Hid (∀ j (h : j < l.length) (h' : j < r.length), j < i → deq l[j] r[j] = true) ∧ wr = w.drewN d)
    case atStart => exact ⟨0, 0, Nat.zero_le _, rfl, rfl, fun j _ _ h => absurd h (Nat.not_lt_zero _), rfl⟩
    case round =>
      obtain ⟨i, d, hi, rfl, rfl, H, hW⟩ := hrel
      have HW := hide hW
      clear hW
      by_cases hlt : i < n
      · have hil : i < l.length := by have := HN.out; omega
        have hir : i < r.length := by have := HM.out; omega
        obtain ⟨b, o, au, nu, cu, rfl, hb, hc, hd, he, ht⟩ := hat i hil
        obtain ⟨b', o', au', nu', cu', rfl, hb', hc', hd', he', ht'⟩ := hat' i hir
        obtain ⟨x, hx⟩ : ∃ x, x = l[i] := ⟨_, rfl⟩
        obtain ⟨y, hy⟩ : ∃ y, y = r[i] := ⟨_, rfl⟩
        rw [← hx] at hc hd ht
        rw [← hy] at hc' hd' ht'
        have e1 : wr.cell? ⟨b, o + i * 3, none⟩ = some (.string x.name) := by rw [HW.out]; exact hc
        have e2 : wr.cell? ⟨b', o' + i * 3, none⟩ = some (.string y.name) := by rw [HW.out]; exact hc'
        have e3 : wr.cell? ⟨b, o + i * 3 + 1, none⟩ = some (.int .u8 x.elem) := by rw [HW.out]; exact hd
        have e4 : wr.cell? ⟨b', o' + i * 3 + 1, none⟩ = some (.int .u8 y.elem) := by rw [HW.out]; exact hd'
        have e5 : wr.cell? ⟨b, o + i * 3 + 2, none⟩ = some (.slice au nu cu) := by rw [HW.out]; exact he
        have e6 : wr.cell? ⟨b', o' + i * 3 + 2, none⟩ = some (.slice au' nu' cu') := by rw [HW.out]; exact he'
        have hcall := fun q => refTerms_any (w := wr.drewN q) (ht.under (drewN2 HW.out q)) (ht'.under (drewN2 HW.out q))
        have HX := hide hx
        have HY := hide hy
        clear hc hc' hd hd' he he' ht ht' hx hy
        obtain ⟨xn, xe, xl⟩ := x
        obtain ⟨yn, ye, yl⟩ := y
        simp only at e1 e2 e3 e4 hcall
        clear hat hat'
        cases h0 : (xn.toList == yn.toList)
        ·
          have hbad : deq l[i] r[i] = false := by rw [← HX.out, ← HY.out]; simp [deq, seq, h0]
          have HBAD := hide hbad
          clear hbad
          clear hcall
          go_wp2_with fail
          go_quiet (first | (go_at_call 50; refine Calls.quiet_of (hcall _)))
          go_wp2
          go_ret
          refine ⟨ret_bool ?_, _, by rw [HW.out]; exact World.drewN_drewN _ _ _⟩
          rw [HR.out]
          exact (eqL_bad i hil hir HBAD.out).symm
        ·

          cases h1 : (xe == ye)
          ·
            have hbad : deq l[i] r[i] = false := by rw [← HX.out, ← HY.out]; simp [deq, seq, h0, h1]
            have HBAD := hide hbad
            clear hbad
            clear hcall
            have k1 : (xe != ye) = true := by rw [bne, h1]; rfl
            go_wp2_with fail
            go_quiet (first | (go_at_call 50; refine Calls.quiet_of (hcall _)))
            go_wp2
            go_ret
            refine ⟨ret_bool ?_, _, by rw [HW.out]; exact World.drewN_drewN _ _ _⟩
            rw [HR.out]
            exact (eqL_bad i hil hir HBAD.out).symm
          ·
            have k1 : (xe != ye) = false := by rw [bne, h1]; rfl
            cases h2 : eqL teq xl yl
            ·
              have hbad : deq l[i] r[i] = false := by rw [← HX.out, ← HY.out]; simp [deq, seq, h0, h1, h2]
              have HBAD := hide hbad
              clear hbad
              rw [h2] at hcall
              go_wp2_with fail
              go_quiet (first | (go_at_call 50; refine Calls.quiet_of (hcall _)))
              go_wp2
              go_ret
              refine ⟨ret_bool ?_, _, by rw [HW.out]; exact World.drewN_drewN _ _ _⟩
              rw [HR.out]
              exact (eqL_bad i hil hir HBAD.out).symm
            ·
              rw [h2] at hcall
              have hall : deq l[i] r[i] = true := by rw [← HX.out, ← HY.out]; simp [deq, seq, h0, h1, h2]
              have HALL := hide hall
              clear hall
              go_wp2_with fail
              go_quiet (first | (go_at_call 50; refine Calls.quiet_of (hcall _)))
              go_wp2
              go_roundg (n - (i + 1))
              case measure => omega
              case rel =>
                refine ⟨i + 1, _, by omega, rfl, by go_num, fun j hj hj' hji => ?_, by rw [HW.out]; exact World.drewN_drewN _ _ _⟩
                by_cases e : j = i
                · subst e
                  exact HALL.out
                · exact H.out j hj hj' (by omega)

      · have hie : i = n := by omega
        subst hie
        clear hat hat'
        go_wp2
        go_ret
        refine ⟨ret_bool ?_, _, HW.out⟩
        rw [HR.out]
        exact (eqL_all (by rw [← HN.out, ← HM.out]) (fun j hj hj' => H.out j hj hj' (by rw [HN.out]; exact hj))).symm
  · have hq : ((n : Int) != (m : Int)) = true := by simp; omega
    clear hat hat' hn hm
    go_enter Tryz.func20, Tryz.ntmps20
    go_wp2
    go_ret
    refine ⟨ret_bool ?_, 0, rfl⟩
    rw [HR.out]
    exact (eqL_len (by rw [← HN.out, ← HM.out]; exact hlen)).symm

end Go.Proofs.YtplofgkofkjhdaaGreatDoor
