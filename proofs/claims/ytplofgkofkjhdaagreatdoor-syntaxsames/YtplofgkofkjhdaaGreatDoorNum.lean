/-
  DERIVED. THE WALK of readNumber.
-/
import Derived.Test.YtplofgkofkjhdaaGreatDoorRead
namespace Go.Proofs.YtplofgkofkjhdaaGreatDoor
open Go.RowKit Go.IntWalk
set_option linter.unusedVariables false
set_option linter.unusedSimpArgs false

theorem bcellB {B : Nat} {W w1 : World} (hb : Below B W w1) : (∀ b o, b < B → w1.cell? ⟨b, o, none⟩ = W.cell? ⟨b, o, none⟩) ∧ (∀ b o, b < B → w1.frozen? ⟨b, o, none⟩ = W.frozen? ⟨b, o, none⟩) :=
  ⟨fun b o h => hb.cell (p := ⟨b, o, none⟩) h, fun b o h => hb.frozen (p := ⟨b, o, none⟩) h⟩

theorem set_off (w : World) (b o o' : Nat) (v : Value) (h : o ≠ o') : (w.setCell ⟨b, o, none⟩ v).drew.cell? ⟨b, o', none⟩ = w.cell? ⟨b, o', none⟩ :=
  World.cell?_setCell_other (w := w) (a := ⟨b, o, none⟩) (b := ⟨b, o', none⟩) (v := v) (by intro e; injection e; omega)

theorem pow_bd2 : ∀ k : Nat, k ≤ 17 → (10 : Int) ^ k ≤ 100000000000000000 := by
  intro k hk
  have : (10 : Int) ^ k ≤ 10 ^ 17 := by
    have h := Nat.pow_le_pow_right (n := 10) (by omega) hk
    exact_mod_cast h
  simpa using this

set_option maxHeartbeats 2000000 in
theorem readNumber_any (s : ByteArray) (w : World) (hlim : s.size ≤ 281474976710656) :
    Calls Tryz.prog 60 #[.string s] w fun e w' => e = .returned (gotV (Tk.readNum s.data.toList)) ∧ Below w.heap.size w w' := by
  have hsz : s.data.toList.length = s.size := by rw [Lib.size_eq]
  cases hbn : Tk.badNum s.data.toList
  · have hle : s.size ≤ 18 := by unfold Tk.badNum at hbn; rw [hsz] at hbn; simp at hbn; omega
    have h48 : 1 < s.size → ∀ h : 0 < s.size, (((s[0]).toNat : Int) == 48) = false := by
      intro h1 h
      have hh : s.data.toList.head? = some s[0] := by
        rw [List.head?_eq_getElem?, List.getElem?_eq_getElem (by simpa using h)]; rfl
      unfold Tk.badNum at hbn
      rw [hsz, hh] at hbn
      simp [h1] at hbn
      have h9 := hbn.2
      rw [beq_eq_false_iff_ne]
      intro e
      apply h9
      apply UInt8.toNat_inj.1
      simp
      omega
    have HG : Hid (Tk.readNum s.data.toList = if s.data.toList.all (fun c => Tk.isD (c.toNat : Int)) then ⟨3, s.data.toList, Tk.numVal s.data.toList, 0⟩ else Tk.bad 2) := by show _ = _; simp [Tk.readNum, hbn]
    clear hsz hbn
    by_cases h1 : 1 < s.size
    · have h0 : 0 < s.size := by omega
      have h9 := h48 h1 h0
      have hd18 : decide ((18 : Int) < (s.size : Int)) = false := by simp; omega
      clear h48
      go_enter Tryz.func60, Tryz.ntmps60
      go_wp2_with fail
      refine (makeToken_any _ _ _ hlim).mono ?_
      rintro e w1 ⟨rfl, hb⟩
      obtain ⟨hc, hf⟩ := bcell hb
      have hz : w.heap.size < w1.heap.size := by have := hb.size; simp at this; omega
      go_wp2_with fail
      go_loopw [24] (fun i wr => ∃ k : Nat, k ≤ s.size ∧ i = .int .i64 k ∧ wr.cell? ⟨w1.heap.size, 0, none⟩ = some (.int .i64 3) ∧ wr.cell? ⟨w1.heap.size, 1, none⟩ = some (.int .i64 0) ∧ wr.cell? ⟨w1.heap.size, 2, none⟩ = some (.string s) ∧
          wr.cell? ⟨w1.heap.size, 3, none⟩ = some (.int .i64 (Tk.numVal (s.data.toList.take k))) ∧ wr.frozen? ⟨w1.heap.size, 3, none⟩ = false ∧ Hid (∀ j (hj : j < s.data.toList.length), j < k → Tk.isD ((s.data.toList[j]).toNat : Int) = true) ∧ Below w1.heap.size w1 wr)
        (fun i _ => s.size - (intOf i).toNat)
      case atStart => exact ⟨0, Nat.zero_le _, rfl, by simp, by simp, by simp, by simp [Tk.numVal], by simp, fun j _ h => absurd h (Nat.not_lt_zero _), (Below.refl _ _).alloc (Nat.le_refl _) _⟩
      case round =>
        obtain ⟨k, hk, rfl, c0, c1, c2, c3, f3, H, hbr⟩ := hrel
        have hbd := numVal_bd s k hk H.out
        have hp := pow_bd k (by omega)
        have hp2 := pow_bd2 k
        obtain ⟨n, hn⟩ : ∃ n, n = Tk.numVal (s.data.toList.take k) := ⟨_, rfl⟩
        rw [← hn] at c3 hbd
        have hn0 : 0 ≤ n := hbd.1
        have hn1 : n < 1000000000000000000 := by omega
        have hn2 : k < s.size → n < 100000000000000000 := fun h => by have := hp2 (by omega); omega
        have HN := hide hn
        clear hn hbd hp hp2
        obtain ⟨hcr, hfr⟩ := bcellB hbr
        by_cases hlt : k < s.size
        · cases hD : Tk.isD ((s[k]).toNat : Int)
          · go_wp2_with (go_at_call 59; refine (isDigit_any _ _).mono ?_; rintro e w' ⟨rfl, rfl⟩)
            rw [HG.out, if_neg (by
              intro hall
              rw [List.all_eq_true] at hall
              have := hall s[k] (List.getElem_mem (by simpa using hlt))
              rw [hD] at this
              cases this)]
            have hb0 : Below w.heap.size w w1 := ((Below.refl _ w).alloc (Nat.le_refl _) _).trans (hb.mono (by simp))
            have hb1 := hb0.trans (hbr.mono (Nat.le_of_lt hz))
            exact bodyPost_ret (v := gotV (Tk.bad 2)) (by simp [results, Tryz.results60, go_sem, hcr, hc, hz, gotV, Tk.bad]) rfl ⟨rfl, (((hb1.setCell (by simp) _).setCell (by simp) _).setCell (by simp) _).setCell (by simp) _⟩
          · have hd1 : 48 ≤ ((s[k]).toNat : Int) := by simp [Tk.isD] at hD; omega
            have hd2 : ((s[k]).toNat : Int) ≤ 57 := by simp [Tk.isD] at hD; omega
            have HD := hide hD
            have hn3 := hn2 hlt
            clear hn2
            go_wp2_with (go_at_call 59; refine (isDigit_any _ _).mono ?_; rintro e w' ⟨rfl, rfl⟩)
            go_region
            all_goals go_wp2
            go_roundw
            case rel =>
              refine ⟨k + 1, by omega, by go_num, (set_off _ _ _ _ _ (by omega)).trans c0, (set_off _ _ _ _ _ (by omega)).trans c1, (set_off _ _ _ _ _ (by omega)).trans c2, ?_, by simpa using f3, ?_, (hbr.setCell (Nat.le_refl _) _).drew⟩
              · have e : Tk.numVal (List.take (k + 1) s.data.toList) = n * 10 + (((s[k]).toNat : Int) - 48) := by rw [take_snoc s k hlt, numVal_snoc, ← HN.out]
                rw [e]
                exact World.cell?_setCell_same _ (a := ⟨w1.heap.size, 3, none⟩) (h := c3) _
              · intro j hj hjk
                by_cases ej : j = k
                · subst ej; rw [byte_at s j hlt]; exact HD.out
                · exact H.out j hj (by omega)
            case measure => simp [intOf]; omega
        · have hke : k = s.size := by omega
          subst hke
          go_wp2
          have hall : s.data.toList.all (fun c => Tk.isD (c.toNat : Int)) = true := by
            rw [List.all_eq_true]
            intro c hcm
            obtain ⟨j, hj, rfl⟩ := List.getElem_of_mem hcm
            exact H.out j hj (by rw [← Lib.size_eq] at hj; exact hj)
          have hnv : n = Tk.numVal s.data.toList := by rw [HN.out, List.take_of_length_le (by rw [← Lib.size_eq]; exact Nat.le_refl _)]
          rw [HG.out, if_pos hall, ← hnv]
          have hb0 : Below w.heap.size w w1 := ((Below.refl _ w).alloc (Nat.le_refl _) _).trans (hb.mono (by simp))
          have hb1 := hb0.trans (hbr.mono (Nat.le_of_lt hz))
          exact bodyPost_ret (v := gotV ⟨3, s.data.toList, n, 0⟩) (by simp [results, Tryz.results60, go_sem, hcr, hc, hz, gotV, mk_toList]) rfl ⟨rfl, (((hb1.setCell (by simp) _).setCell (by simp) _).setCell (by simp) _).setCell (by simp) _⟩
    · have hd1' : decide ((1 : Int) < (s.size : Int)) = false := by simp; omega
      have hd18 : decide ((18 : Int) < (s.size : Int)) = false := by simp; omega
      clear h48
      go_enter Tryz.func60, Tryz.ntmps60
      go_wp2_with fail
      refine (makeToken_any _ _ _ hlim).mono ?_
      rintro e w1 ⟨rfl, hb⟩
      obtain ⟨hc, hf⟩ := bcell hb
      have hz : w.heap.size < w1.heap.size := by have := hb.size; simp at this; omega
      go_wp2_with fail
      go_loopw [24] (fun i wr => ∃ k : Nat, k ≤ s.size ∧ i = .int .i64 k ∧ wr.cell? ⟨w1.heap.size, 0, none⟩ = some (.int .i64 3) ∧ wr.cell? ⟨w1.heap.size, 1, none⟩ = some (.int .i64 0) ∧ wr.cell? ⟨w1.heap.size, 2, none⟩ = some (.string s) ∧
          wr.cell? ⟨w1.heap.size, 3, none⟩ = some (.int .i64 (Tk.numVal (s.data.toList.take k))) ∧ wr.frozen? ⟨w1.heap.size, 3, none⟩ = false ∧ Hid (∀ j (hj : j < s.data.toList.length), j < k → Tk.isD ((s.data.toList[j]).toNat : Int) = true) ∧ Below w1.heap.size w1 wr)
        (fun i _ => s.size - (intOf i).toNat)
      case atStart => exact ⟨0, Nat.zero_le _, rfl, by simp, by simp, by simp, by simp [Tk.numVal], by simp, fun j _ h => absurd h (Nat.not_lt_zero _), (Below.refl _ _).alloc (Nat.le_refl _) _⟩
      case round =>
        obtain ⟨k, hk, rfl, c0, c1, c2, c3, f3, H, hbr⟩ := hrel
        have hbd := numVal_bd s k hk H.out
        have hp := pow_bd k (by omega)
        have hp2 := pow_bd2 k
        obtain ⟨n, hn⟩ : ∃ n, n = Tk.numVal (s.data.toList.take k) := ⟨_, rfl⟩
        rw [← hn] at c3 hbd
        have hn0 : 0 ≤ n := hbd.1
        have hn1 : n < 1000000000000000000 := by omega
        have hn2 : k < s.size → n < 100000000000000000 := fun h => by have := hp2 (by omega); omega
        have HN := hide hn
        clear hn hbd hp hp2
        obtain ⟨hcr, hfr⟩ := bcellB hbr
        by_cases hlt : k < s.size
        · cases hD : Tk.isD ((s[k]).toNat : Int)
          · go_wp2_with (go_at_call 59; refine (isDigit_any _ _).mono ?_; rintro e w' ⟨rfl, rfl⟩)
            rw [HG.out, if_neg (by
              intro hall
              rw [List.all_eq_true] at hall
              have := hall s[k] (List.getElem_mem (by simpa using hlt))
              rw [hD] at this
              cases this)]
            have hb0 : Below w.heap.size w w1 := ((Below.refl _ w).alloc (Nat.le_refl _) _).trans (hb.mono (by simp))
            have hb1 := hb0.trans (hbr.mono (Nat.le_of_lt hz))
            exact bodyPost_ret (v := gotV (Tk.bad 2)) (by simp [results, Tryz.results60, go_sem, hcr, hc, hz, gotV, Tk.bad]) rfl ⟨rfl, (((hb1.setCell (by simp) _).setCell (by simp) _).setCell (by simp) _).setCell (by simp) _⟩
          · have hd1 : 48 ≤ ((s[k]).toNat : Int) := by simp [Tk.isD] at hD; omega
            have hd2 : ((s[k]).toNat : Int) ≤ 57 := by simp [Tk.isD] at hD; omega
            have HD := hide hD
            have hn3 := hn2 hlt
            clear hn2
            go_wp2_with (go_at_call 59; refine (isDigit_any _ _).mono ?_; rintro e w' ⟨rfl, rfl⟩)
            go_region
            all_goals go_wp2
            go_roundw
            case rel =>
              refine ⟨k + 1, by omega, by go_num, (set_off _ _ _ _ _ (by omega)).trans c0, (set_off _ _ _ _ _ (by omega)).trans c1, (set_off _ _ _ _ _ (by omega)).trans c2, ?_, by simpa using f3, ?_, (hbr.setCell (Nat.le_refl _) _).drew⟩
              · have e : Tk.numVal (List.take (k + 1) s.data.toList) = n * 10 + (((s[k]).toNat : Int) - 48) := by rw [take_snoc s k hlt, numVal_snoc, ← HN.out]
                rw [e]
                exact World.cell?_setCell_same _ (a := ⟨w1.heap.size, 3, none⟩) (h := c3) _
              · intro j hj hjk
                by_cases ej : j = k
                · subst ej; rw [byte_at s j hlt]; exact HD.out
                · exact H.out j hj (by omega)
            case measure => simp [intOf]; omega
        · have hke : k = s.size := by omega
          subst hke
          go_wp2
          have hall : s.data.toList.all (fun c => Tk.isD (c.toNat : Int)) = true := by
            rw [List.all_eq_true]
            intro c hcm
            obtain ⟨j, hj, rfl⟩ := List.getElem_of_mem hcm
            exact H.out j hj (by rw [← Lib.size_eq] at hj; exact hj)
          have hnv : n = Tk.numVal s.data.toList := by rw [HN.out, List.take_of_length_le (by rw [← Lib.size_eq]; exact Nat.le_refl _)]
          rw [HG.out, if_pos hall, ← hnv]
          have hb0 : Below w.heap.size w w1 := ((Below.refl _ w).alloc (Nat.le_refl _) _).trans (hb.mono (by simp))
          have hb1 := hb0.trans (hbr.mono (Nat.le_of_lt hz))
          exact bodyPost_ret (v := gotV ⟨3, s.data.toList, n, 0⟩) (by simp [results, Tryz.results60, go_sem, hcr, hc, hz, gotV, mk_toList]) rfl ⟨rfl, (((hb1.setCell (by simp) _).setCell (by simp) _).setCell (by simp) _).setCell (by simp) _⟩
  · have HG : Hid (Tk.readNum s.data.toList = Tk.bad 2) := by show _ = _; simp [Tk.readNum, hbn]
    unfold Tk.badNum at hbn
    rw [hsz] at hbn
    clear hsz
    by_cases h18 : 18 < s.size
    · clear hbn
      go_enter Tryz.func60, Tryz.ntmps60
      go_wp2
      rw [HG.out]
      exact bodyPost_ret (v := gotV (Tk.bad 2)) (by simp [results, Tryz.results60, go_sem, gotV, Tk.bad]) rfl ⟨rfl, (Below.refl _ _).alloc (Nat.le_refl _) _⟩
    · have h1 : 1 < s.size := by simp [h18] at hbn; omega
      have h48 : (((s[0]).toNat : Int) == 48) = true := by
        have hh : s.data.toList.head? = some s[0] := by
          rw [List.head?_eq_getElem?, List.getElem?_eq_getElem (by simpa using (by omega : 0 < s.size))]; rfl
        rw [hh] at hbn
        simp [h18, h1] at hbn
        simp [hbn]
      clear hbn
      go_enter Tryz.func60, Tryz.ntmps60
      go_wp2
      rw [HG.out]
      exact bodyPost_ret (v := gotV (Tk.bad 2)) (by simp [results, Tryz.results60, go_sem, gotV, Tk.bad]) rfl ⟨rfl, (Below.refl _ _).alloc (Nat.le_refl _) _⟩

end Go.Proofs.YtplofgkofkjhdaaGreatDoor
