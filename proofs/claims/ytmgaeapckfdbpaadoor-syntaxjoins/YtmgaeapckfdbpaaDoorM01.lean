/-
  DERIVED. THE WALK of readNumber.
-/
import Derived.Test.YtmgaeapckfdbpaaDoorM00
namespace Go.Proofs.YtmgaeapckfdbpaaDoor
open Go.RowKit Go.IntWalk
set_option linter.unusedVariables false
set_option linter.unusedSimpArgs false

theorem bcellB {B : Nat} {W w1 : World} (hb : Below B W w1) : (∀ b o, b < B → w1.cell? ⟨b, o, none⟩ = W.cell? ⟨b, o, none⟩) ∧ (∀ b o, b < B → w1.frozen? ⟨b, o, none⟩ = W.frozen? ⟨b, o, none⟩) :=
  ⟨fun b o h => hb.cell (p := ⟨b, o, none⟩) h, fun b o h => hb.frozen (p := ⟨b, o, none⟩) h⟩

theorem set_off (w : World) (b o o' : Nat) (v : Value) (h : o ≠ o') : (w.setCell ⟨b, o, none⟩ v).drew.cell? ⟨b, o', none⟩ = w.cell? ⟨b, o', none⟩ :=
  World.cell?_setCell_other (w := w) (a := ⟨b, o, none⟩) (b := ⟨b, o', none⟩) (v := v) (by intro e; injection e; omega)

theorem pow_bd2 : ∀ k : Nat, k ≤ 17 → (10 : Int) ^ k ≤ 100000000000000000 := by
  intro k hk
  have : (10 : Int) ^ k ≤ 10 ^ 17 := by
    have h := Nat.pow_le_pow_right (n := 10) (by omega) hk
    exact_mod_cast h
  simpa using this

set_option maxHeartbeats 2000000 in
theorem readNumber_any (s : ByteArray) (w : World) (hlim : s.size ≤ 281474976710656) :
    Calls Tryd.prog 36 #[.string s] w fun e w' => e = .returned (gotV (Tk.readNum s.data.toList)) ∧ Below w.heap.size w w' := by
  have hsz : s.data.toList.length = s.size := by rw [Lib.size_eq]
  cases hbn : Tk.badNum s.data.toList
  · have hle : s.size ≤ 18 := by unfold Tk.badNum at hbn; rw [hsz] at hbn; simp at hbn; omega
    have h48 : 1 < s.size → ∀ h : 0 < s.size, (((s[0]).toNat : Int) == 48) = false := by
      intro h1 h
      have hh : s.data.toList.head? = some s[0] := by
        rw [List.head?_eq_getElem?, List.getElem?_eq_getElem (by simpa using h)]; rfl
      unfold Tk.badNum at hbn
      rw [hsz, hh] at hbn
      simp [h1] at hbn
      have h9 := hbn.2
      rw [beq_eq_false_iff_ne]
      intro e
      apply h9
      apply UInt8.toNat_inj.1
      simp
      omega
    have HG : Hid (Tk.readNum s.data.toList = if s.data.toList.all (fun c => Tk.isD (c.toNat : Int)) then ⟨3, s.data.toList, Tk.numVal s.data.toList, 0⟩ else Tk.bad 2) := by show _ = _; simp [Tk.readNum, hbn]
    clear hsz hbn
    by_cases h1 : 1 < s.size
    · have h0 : 0 < s.size := by omega
      have h9 := h48 h1 h0
      have hd18 : decide ((18 : Int) < (s.size : Int)) = false := by simp; omega
      clear h48
      go_enter Tryd.func36, Tryd.ntmps36
      go_wp2_with fail
      refine (makeToken_any _ _ _ hlim).mono ?_
      rintro e w1 ⟨rfl, hb⟩
      obtain ⟨hc, hf⟩ := bcell hb
      have hz : w.heap.size < w1.heap.size := by have := hb.size; simp at this; omega
      go_wp2_with fail
      go_loopw [24] (fun i wr => ∃ k : Nat, k ≤ s.size ∧ i = .int .i64 k ∧ wr.cell? ⟨w1.heap.size, 0, none⟩ = some (.int .i64 3) ∧ wr.cell? ⟨w1.heap.size, 1, none⟩ = some (.int .i64 0) ∧ wr.cell? ⟨w1.heap.size, 2, none⟩ = some (.string s) ∧
          wr.cell? ⟨w1.heap.size, 3, none⟩ = some (.int .i64 (Tk.numVal (s.data.toList.take k))) ∧ wr.frozen? ⟨w1.heap.size, 3, none⟩ = false ∧ Hid (∀ j (hj : j < s.data.toList.length), j < k → Tk.isD ((s.data.toList[j]).toNat : Int) = true) ∧ Below w1.heap.size w1 wr)
        (fun i _ => s.size - (intOf i).toNat)
      case atStart => exact ⟨0, Nat.zero_le _, rfl, by simp, by simp, by simp, by simp [Tk.numVal], by simp, fun j _ h => absurd h (Nat.not_lt_zero _), (Below.refl _ _).alloc (Nat.le_refl _) _⟩
      case round =>
        obtain ⟨k, hk, rfl, c0, c1, c2, c3, f3, H, hbr⟩ := hrel
        have hbd := numVal_bd s k hk H.out
        have hp := pow_bd k (by omega)
        have hp2 := pow_bd2 k
        obtain ⟨n, hn⟩ : ∃ n, n = Tk.numVal (s.data.toList.take k) := ⟨_, rfl⟩
        rw [← hn] at c3 hbd
        have hn0 : 0 ≤ n := hbd.1
        have hn1 : n < 1000000000000000000 := by omega
        have hn2 : k < s.size → n < 100000000000000000 := fun h => by have := hp2 (by omega); omega
        have HN := hide hn
        clear hn hbd hp hp2
        obtain ⟨hcr, hfr⟩ := bcellB hbr
        by_cases hlt : k < s.size
        · cases hD : Tk.isD ((s[k]).toNat : Int)
          · go_wp2_with (go_at_call 35; refine (isDigit_any _ _).mono ?_; rintro e w' ⟨rfl, rfl⟩)
            rw [HG.out, if_neg (by
              intro hall
              rw [List.all_eq_true] at hall
              have := hall s[k] (List.getElem_mem (by simpa using hlt))
              rw [hD] at this
              cases this)]
            have hb0 : Below w.heap.size w w1 := ((Below.refl _ w).alloc (Nat.le_refl _) _).trans (hb.mono (by simp))
            have hb1 := hb0.trans (hbr.mono (Nat.le_of_lt hz))
            exact bodyPost_ret (v := gotV (Tk.bad 2)) (by simp [results, Tryd.results36, go_sem, hcr, hc, hz, gotV, Tk.bad]) rfl ⟨rfl, (((hb1.setCell (by simp) _).setCell (by simp) _).setCell (by simp) _).setCell (by simp) _⟩
          · have hd1 : 48 ≤ ((s[k]).toNat : Int) := by simp [Tk.isD] at hD; omega
            have hd2 : ((s[k]).toNat : Int) ≤ 57 := by simp [Tk.isD] at hD; omega
            have HD := hide hD
            have hn3 := hn2 hlt
            clear hn2
            go_wp2_with (go_at_call 35; refine (isDigit_any _ _).mono ?_; rintro e w' ⟨rfl, rfl⟩)
            go_region
            all_goals go_wp2
            go_roundw
            case rel =>
              refine ⟨k + 1, by omega, by go_num, (set_off _ _ _ _ _ (by omega)).trans c0, (set_off _ _ _ _ _ (by omega)).trans c1, (set_off _ _ _ _ _ (by omega)).trans c2, ?_, by simpa using f3, ?_, (hbr.setCell (Nat.le_refl _) _).drew⟩
              · have e : Tk.numVal (List.take (k + 1) s.data.toList) = n * 10 + (((s[k]).toNat : Int) - 48) := by rw [take_snoc s k hlt, numVal_snoc, ← HN.out]
                rw [e]
                exact World.cell?_setCell_same _ (a := ⟨w1.heap.size, 3, none⟩) (h := c3) _
              · intro j hj hjk
                by_cases ej : j = k
                · subst ej; rw [byte_at s j hlt]; exact HD.out
                · exact H.out j hj (by omega)
            case measure => simp [intOf]; omega
        · have hke : k = s.size := by omega
          subst hke
          go_wp2
          have hall : s.data.toList.all (fun c => Tk.isD (c.toNat : Int)) = true := by
            rw [List.all_eq_true]
            intro c hcm
            obtain ⟨j, hj, rfl⟩ := List.getElem_of_mem hcm
            exact H.out j hj (by rw [← Lib.size_eq] at hj; exact hj)
          have hnv : n = Tk.numVal s.data.toList := by rw [HN.out, List.take_of_length_le (by rw [← Lib.size_eq]; exact Nat.le_refl _)]
          rw [HG.out, if_pos hall, ← hnv]
          have hb0 : Below w.heap.size w w1 := ((Below.refl _ w).alloc (Nat.le_refl _) _).trans (hb.mono (by simp))
          have hb1 := hb0.trans (hbr.mono (Nat.le_of_lt hz))
          exact bodyPost_ret (v := gotV ⟨3, s.data.toList, n, 0⟩) (by simp [results, Tryd.results36, go_sem, hcr, hc, hz, gotV, mk_toList]) rfl ⟨rfl, (((hb1.setCell (by simp) _).setCell (by simp) _).setCell (by simp) _).setCell (by simp) _⟩
    · have hd1' : decide ((1 : Int) < (s.size : Int)) = false := by simp; omega
      have hd18 : decide ((18 : Int) < (s.size : Int)) = false := by simp; omega
      clear h48
      go_enter Tryd.func36, Tryd.ntmps36
      go_wp2_with fail
      refine (makeToken_any _ _ _ hlim).mono ?_
      rintro e w1 ⟨rfl, hb⟩
      obtain ⟨hc, hf⟩ := bcell hb
      have hz : w.heap.size < w1.heap.size := by have := hb.size; simp at this; omega
      go_wp2_with fail
      go_loopw [24] (fun i wr => ∃ k : Nat, k ≤ s.size ∧ i = .int .i64 k ∧ wr.cell? ⟨w1.heap.size, 0, none⟩ = some (.int .i64 3) ∧ wr.cell? ⟨w1.heap.size, 1, none⟩ = some (.int .i64 0) ∧ wr.cell? ⟨w1.heap.size, 2, none⟩ = some (.string s) ∧
          wr.cell? ⟨w1.heap.size, 3, none⟩ = some (.int .i64 (Tk.numVal (s.data.toList.take k))) ∧ wr.frozen? ⟨w1.heap.size, 3, none⟩ = false ∧ Hid (∀ j (hj : j < s.data.toList.length), j < k → Tk.isD ((s.data.toList[j]).toNat : Int) = true) ∧ Below w1.heap.size w1 wr)
        (fun i _ => s.size - (intOf i).toNat)
      case atStart => exact ⟨0, Nat.zero_le _, rfl, by simp, by simp, by simp, by simp [Tk.numVal], by simp, fun j _ h => absurd h (Nat.not_lt_zero _), (Below.refl _ _).alloc (Nat.le_refl _) _⟩
      case round =>
        obtain ⟨k, hk, rfl, c0, c1, c2, c3, f3, H, hbr⟩ := hrel
        have hbd := numVal_bd s k hk H.out
        have hp := pow_bd k (by omega)
        have hp2 := pow_bd2 k
        obtain ⟨n, hn⟩ : ∃ n, n = Tk.numVal (s.data.toList.take k) := ⟨_, rfl⟩
        rw [← hn] at c3 hbd
        have hn0 : 0 ≤ n := hbd.1
        have hn1 : n < 1000000000000000000 := by omega
        have hn2 : k < s.size → n < 100000000000000000 := fun h => by have := hp2 (by omega); omega
        have HN := hide hn
        clear hn hbd hp hp2
        obtain ⟨hcr, hfr⟩ := bcellB hbr
        by_cases hlt : k < s.size
        · cases hD : Tk.isD ((s[k]).toNat : Int)
          · go_wp2_with (go_at_call 35; refine (isDigit_any _ _).mono ?_; rintro e w' ⟨rfl, rfl⟩)
            rw [HG.out, if_neg (by
              intro hall
              rw [List.all_eq_true] at hall
              have := hall s[k] (List.getElem_mem (by simpa using hlt))
              rw [hD] at this
              cases this)]
            have hb0 : Below w.heap.size w w1 := ((Below.refl _ w).alloc (Nat.le_refl _) _).trans (hb.mono (by simp))
            have hb1 := hb0.trans (hbr.mono (Nat.le_of_lt hz))
            exact bodyPost_ret (v := gotV (Tk.bad 2)) (by simp [results, Tryd.results36, go_sem, hcr, hc, hz, gotV, Tk.bad]) rfl ⟨rfl, (((hb1.setCell (by simp) _).setCell (by simp) _).setCell (by simp) _).setCell (by simp) _⟩
          · have hd1 : 48 ≤ ((s[k]).toNat : Int) := by simp [Tk.isD] at hD; omega
            have hd2 : ((s[k]).toNat : Int) ≤ 57 := by simp [Tk.isD] at hD; omega
            have HD := hide hD
            have hn3 := hn2 hlt
            clear hn2
            go_wp2_with (go_at_call 35; refine (isDigit_any _ _).mono ?_; rintro e w' ⟨rfl, rfl⟩)
            go_region
            all_goals go_wp2
            go_roundw
            case rel =>
              refine ⟨k + 1, by omega, by go_num, (set_off _ _ _ _ _ (by omega)).trans c0, (set_off _ _ _ _ _ (by omega)).trans c1, (set_off _ _ _ _ _ (by omega)).trans c2, ?_, by simpa using f3, ?_, (hbr.setCell (Nat.le_refl _) _).drew⟩
              · have e : Tk.numVal (List.take (k + 1) s.data.toList) = n * 10 + (((s[k]).toNat : Int) - 48) := by rw [take_snoc s k hlt, numVal_snoc, ← HN.out]
                rw [e]
                exact World.cell?_setCell_same _ (a := ⟨w1.heap.size, 3, none⟩) (h := c3) _
              · intro j hj hjk
                by_cases ej : j = k
                · subst ej; rw [byte_at s j hlt]; exact HD.out
                · exact H.out j hj (by omega)
            case measure => simp [intOf]; omega
        · have hke : k = s.size := by omega
          subst hke
          go_wp2
          have hall : s.data.toList.all (fun c => Tk.isD (c.toNat : Int)) = true := by
            rw [List.all_eq_true]
            intro c hcm
            obtain ⟨j, hj, rfl⟩ := List.getElem_of_mem hcm
            exact H.out j hj (by rw [← Lib.size_eq] at hj; exact hj)
          have hnv : n = Tk.numVal s.data.toList := by rw [HN.out, List.take_of_length_le (by rw [← Lib.size_eq]; exact Nat.le_refl _)]
          rw [HG.out, if_pos hall, ← hnv]
          have hb0 : Below w.heap.size w w1 := ((Below.refl _ w).alloc (Nat.le_refl _) _).trans (hb.mono (by simp))
          have hb1 := hb0.trans (hbr.mono (Nat.le_of_lt hz))
          exact bodyPost_ret (v := gotV ⟨3, s.data.toList, n, 0⟩) (by simp [results, Tryd.results36, go_sem, hcr, hc, hz, gotV, mk_toList]) rfl ⟨rfl, (((hb1.setCell (by simp) _).setCell (by simp) _).setCell (by simp) _).setCell (by simp) _⟩
  · have HG : Hid (Tk.readNum s.data.toList = Tk.bad 2) := by show _ = _; simp [Tk.readNum, hbn]
    unfold Tk.badNum at hbn
    rw [hsz] at hbn
    clear hsz
    by_cases h18 : 18 < s.size
    · clear hbn
      go_enter Tryd.func36, Tryd.ntmps36
      go_wp2
      rw [HG.out]
      exact bodyPost_ret (v := gotV (Tk.bad 2)) (by simp [results, Tryd.results36, go_sem, gotV, Tk.bad]) rfl ⟨rfl, (Below.refl _ _).alloc (Nat.le_refl _) _⟩
    · have h1 : 1 < s.size := by simp [h18] at hbn; omega
      have h48 : (((s[0]).toNat : Int) == 48) = true := by
        have hh : s.data.toList.head? = some s[0] := by
          rw [List.head?_eq_getElem?, List.getElem?_eq_getElem (by simpa using (by omega : 0 < s.size))]; rfl
        rw [hh] at hbn
        simp [h18, h1] at hbn
        simp [hbn]
      clear hbn
      go_enter Tryd.func36, Tryd.ntmps36
      go_wp2
      rw [HG.out]
      exact bodyPost_ret (v := gotV (Tk.bad 2)) (by simp [results, Tryd.results36, go_sem, gotV, Tk.bad]) rfl ⟨rfl, (Below.refl _ _).alloc (Nat.le_refl _) _⟩

end Go.Proofs.YtmgaeapckfdbpaaDoor


/-
  DERIVED. THE WALK of token.read.
-/
namespace Go.Proofs.YtmgaeapckfdbpaaDoor
open Go.RowKit Go.IntWalk
set_option linter.unusedVariables false
set_option linter.unusedSimpArgs false

theorem headD_eq : ∀ (l : List UInt8) (h : 0 < l.length), l.headD 0 = l[0]
  | [], h => by simp at h
  | _ :: _, _ => rfl

set_option maxHeartbeats 1000000 in
theorem read_any (s : ByteArray) (w : World) (hlim : s.size ≤ 281474976710656) :
    Calls Tryd.prog 24 #[.string s] w fun e w' => e = .returned (gotV (Tk.read s.data.toList)) ∧ Below w.heap.size w w' := by
  have hml : s.size ≤ maxLen := by unfold maxLen; omega
  have hle := Tk.runLen_le s.data.toList
  rw [← Lib.size_eq] at hle
  by_cases h0 : Tk.runLen s.data.toList = 0
  · have h1 : ((Tk.runLen s.data.toList : Int) == 0) = true := by simp [h0]
    have HG : Hid (Tk.read s.data.toList = Tk.readSign s.data.toList) := by show _ = _; simp [Tk.read, h0]
    clear h0
    obtain ⟨g, hg⟩ : ∃ g, g = Tk.readSign s.data.toList := ⟨_, rfl⟩
    rw [HG.out, ← hg]
    unfold gotV
    have HGG := hide hg
    clear hg HG
    go_enter Tryd.func24, Tryd.ntmps24
    go_wp2_with (go_at_call 33; refine (runLength_any _ _ hml).mono ?_; rintro e w' ⟨rfl, rfl⟩)
    refine (readSign_any _ _ hlim).mono ?_
    rintro e w1 ⟨he, hb⟩
    rw [← unhide HGG] at he
    unfold gotV at he
    subst he
    obtain ⟨hc, hf⟩ := bcell hb
    go_wp2
    have hb0 : Below w.heap.size w w1 := ((Below.refl _ w).alloc (Nat.le_refl _) _).trans (hb.mono (by simp))
    exact bodyPost_ret (v := .tuple #[.agg #[.int .i64 g.kind, .int .i64 0, .string ⟨g.text.toArray⟩, .int .i64 g.n], .int .i64 g.code]) (by simp [results, Tryd.results24, go_sem, hc]) rfl ⟨rfl, (((hb0.setCell (by simp) _).setCell (by simp) _).setCell (by simp) _).setCell (by simp) _⟩
  · have h1 : ((Tk.runLen s.data.toList : Int) == 0) = false := by simp [h0]
    have hp : 0 < s.size := by omega
    have hhd : s.data.toList.headD 0 = s[0] := by
      exact headD_eq s.data.toList (by rw [← Lib.size_eq]; omega)
    cases hD : Tk.isD ((s[0]).toNat : Int)
    · have HG : Hid (Tk.read s.data.toList = Tk.readName (s.extract 0 (Tk.runLen s.data.toList)).data.toList) := by show _ = _; rw [extract_list]; simp only [Tk.read, h0, hhd, hD]; simp
      clear h0 hhd
      obtain ⟨g, hg⟩ : ∃ g, g = Tk.readName (s.extract 0 (Tk.runLen s.data.toList)).data.toList := ⟨_, rfl⟩
      rw [HG.out, ← hg]
      unfold gotV
      have HGG := hide hg
      clear hg HG
      go_enter Tryd.func24, Tryd.ntmps24
      go_wp2_with (first
        | (go_at_call 33; refine (runLength_any _ _ hml).mono ?_; rintro e w' ⟨rfl, rfl⟩)
        | (go_at_call 35; refine (isDigit_any _ _).mono ?_; rintro e w' ⟨rfl, rfl⟩))
      refine (readWordOrName_any _ _ (by rw [ByteArray.size_extract]; omega)).mono ?_
      rintro e w1 ⟨he, hb⟩
      rw [← unhide HGG] at he
      unfold gotV at he
      subst he
      obtain ⟨hc, hf⟩ := bcell hb
      go_wp2
      have hb0 : Below w.heap.size w w1 := ((Below.refl _ w).alloc (Nat.le_refl _) _).trans (hb.mono (by simp))
      exact bodyPost_ret (v := .tuple #[.agg #[.int .i64 g.kind, .int .i64 0, .string ⟨g.text.toArray⟩, .int .i64 g.n], .int .i64 g.code]) (by simp [results, Tryd.results24, go_sem, hc]) rfl ⟨rfl, (((hb0.setCell (by simp) _).setCell (by simp) _).setCell (by simp) _).setCell (by simp) _⟩
    · have HG : Hid (Tk.read s.data.toList = Tk.readNum (s.extract 0 (Tk.runLen s.data.toList)).data.toList) := by show _ = _; rw [extract_list]; simp only [Tk.read, h0, hhd, hD]; simp
      clear h0 hhd
      obtain ⟨g, hg⟩ : ∃ g, g = Tk.readNum (s.extract 0 (Tk.runLen s.data.toList)).data.toList := ⟨_, rfl⟩
      rw [HG.out, ← hg]
      unfold gotV
      have HGG := hide hg
      clear hg HG
      go_enter Tryd.func24, Tryd.ntmps24
      go_wp2_with (first
        | (go_at_call 33; refine (runLength_any _ _ hml).mono ?_; rintro e w' ⟨rfl, rfl⟩)
        | (go_at_call 35; refine (isDigit_any _ _).mono ?_; rintro e w' ⟨rfl, rfl⟩))
      refine (readNumber_any _ _ (by rw [ByteArray.size_extract]; omega)).mono ?_
      rintro e w1 ⟨he, hb⟩
      rw [← unhide HGG] at he
      unfold gotV at he
      subst he
      obtain ⟨hc, hf⟩ := bcell hb
      go_wp2
      have hb0 : Below w.heap.size w w1 := ((Below.refl _ w).alloc (Nat.le_refl _) _).trans (hb.mono (by simp))
      exact bodyPost_ret (v := .tuple #[.agg #[.int .i64 g.kind, .int .i64 0, .string ⟨g.text.toArray⟩, .int .i64 g.n], .int .i64 g.code]) (by simp [results, Tryd.results24, go_sem, hc]) rfl ⟨rfl, (((hb0.setCell (by simp) _).setCell (by simp) _).setCell (by simp) _).setCell (by simp) _⟩

end Go.Proofs.YtmgaeapckfdbpaaDoor


/-
  DERIVED. PLAIN MATHEMATICS over the functions of Spec: what a token's text is; how a scan goes on.
-/
namespace Go.Proofs.YtmgaeapckfdbpaaDoor.Tk
set_option linter.unusedVariables false
set_option linter.unusedSimpArgs false

theorem signLen_le (l : List UInt8) : signLen l ≤ l.length := by
  unfold signLen
  split
  · simp
  · rename_i c l
    split
    · rename_i h
      cases l with
      | nil => simp at h
      | cons d l => simp
    · split <;> simp

/-- the text of a token is what stands there, one byte at least -/
theorem read_ok (l : List UInt8) (hl : l ≠ []) (h : (read l).code = 0) : (read l).text = l.take (read l).text.length ∧ 0 < (read l).text.length ∧ (read l).text.length ≤ l.length := by
  have key : ∀ k, 0 < k → k ≤ l.length → (read l).text = l.take k → (read l).text = l.take (read l).text.length ∧ 0 < (read l).text.length ∧ (read l).text.length ≤ l.length := by
    intro k h0 h1 e
    have el : (read l).text.length = k := by rw [e, List.length_take]; omega
    rw [el]
    exact ⟨e, h0, h1⟩
  have hr := runLen_le l
  have hs := signLen_le l
  by_cases h0 : runLen l = 0
  · have e : read l = readSign l := by simp [read, h0]
    rw [e] at h
    by_cases h1 : signLen l = 0
    · simp [readSign, h1, bad] at h
    · exact key (signLen l) (by omega) hs (by rw [e]; simp [readSign, h1])
  · apply key (runLen l) (by omega) hr
    by_cases h1 : isD ((l.headD 0).toNat : Int) = true
    · have e : read l = readNum (l.take (runLen l)) := by unfold read; rw [if_neg h0, if_pos h1]
      rw [e] at h ⊢
      unfold readNum at h ⊢
      split at h
      · simp [bad] at h
      · rename_i h2
        rw [if_neg h2]
        split at h
        · rename_i h3
          rw [if_pos h3]
        · simp [bad] at h
    · have e : read l = readName (l.take (runLen l)) := by unfold read; rw [if_neg h0, if_neg h1]
      rw [e] at h ⊢
      unfold readName at h ⊢
      split at h
      · rename_i h2
        rw [if_pos h2]
      · rename_i h2
        rw [if_neg h2]
        split at h
        · simp [bad] at h
        · rename_i h3
          rw [if_neg h3]

/-- tokens that are there already, and what the rest says -/
def comb (acc : List Tok) (q : List Tok × Int × Int) : List Tok × Int × Int := if q.2.1 ≠ 0 then ([], q.2) else (acc ++ q.1, 0, 0)

theorem scanR_fault (f : Nat) (l : List UInt8) (p : Nat) (hl : l ≠ []) (h : (read l).code ≠ 0) (acc : List Tok) :
    comb acc (scanR (f + 1) l p) = ([], (read l).code, (p : Int)) := by
  cases l with
  | nil => exact absurd rfl hl
  | cons c l => simp only [scanR]; rw [if_pos h]; simp [comb, h]

/-- where the rest begins, behind a token -/
def nextAt (l : List UInt8) : Nat := (read l).text.length + blankLen false (l.drop (read l).text.length)

theorem scanR_step (f : Nat) (l : List UInt8) (p : Nat) (hl : l ≠ []) (h : (read l).code = 0) (acc : List Tok) :
    comb acc (scanR (f + 1) l p) = comb (acc ++ [⟨(read l).kind, p, (read l).text, (read l).n⟩]) (scanR f (l.drop (nextAt l)) (p + nextAt l)) := by
  cases l with
  | nil => exact absurd rfl hl
  | cons c l =>
    simp only [scanR]
    rw [if_neg (by simpa using h)]
    have e1 : List.drop (blankLen false (List.drop (read (c :: l)).text.length (c :: l))) (List.drop (read (c :: l)).text.length (c :: l)) = List.drop (nextAt (c :: l)) (c :: l) := by
      rw [List.drop_drop]; rfl
    have e2 : p + (read (c :: l)).text.length + blankLen false (List.drop (read (c :: l)).text.length (c :: l)) = p + nextAt (c :: l) := by unfold nextAt; omega
    rw [e1, e2]
    generalize scanR f (List.drop (nextAt (c :: l)) (c :: l)) (p + nextAt (c :: l)) = q
    unfold comb
    by_cases hq : q.2.1 = 0
    · simp [hq]
    · simp [hq]

theorem scanR_end (f : Nat) (p : Nat) (acc : List Tok) : comb acc (scanR f [] p) = (acc, 0, 0) := by
  cases f <;> simp [scanR, comb]

theorem nextAt_le (l : List UInt8) (hl : l ≠ []) (h : (read l).code = 0) : 0 < nextAt l ∧ nextAt l ≤ l.length := by
  have h1 := read_ok l hl h
  have h2 := blankLen_le false (l.drop (read l).text.length)
  rw [List.length_drop] at h2
  unfold nextAt
  omega

theorem scan_start (l : List UInt8) (hl : l.length ≤ 12000) : scan l = comb [] (scanR l.length (l.drop (blankLen false l)) (blankLen false l)) := by
  unfold scan
  rw [if_neg (by omega)]
  generalize hq : scanR l.length (l.drop (blankLen false l)) (blankLen false l) = q
  have key : ∀ (f : Nat) (l : List UInt8) (p : Nat), (scanR f l p).2.1 ≠ 0 → (scanR f l p).1 = [] := by
    intro f l p
    cases f with
    | zero => simp [scanR]
    | succ f =>
      cases l with
      | nil => simp [scanR]
      | cons c l =>
        simp only [scanR]
        split
        · intro _; rfl
        · split
          · intro _; rfl
          · simp
  have key2 : ∀ (f : Nat) (l : List UInt8) (p : Nat), (scanR f l p).2.1 = 0 → (scanR f l p).2.2 = 0 := by
    intro f l p
    cases f with
    | zero => simp [scanR]
    | succ f =>
      cases l with
      | nil => simp [scanR]
      | cons c l =>
        simp only [scanR]
        split
        · rename_i h; intro h'; exact absurd h' h
        · split
          · rename_i h; intro h'; exact absurd h' h
          · simp
  have k1 := key l.length (l.drop (blankLen false l)) (blankLen false l)
  have k2 := key2 l.length (l.drop (blankLen false l)) (blankLen false l)
  rw [hq] at k1 k2
  obtain ⟨a, b, c⟩ := q
  unfold comb
  by_cases hb : b = 0
  · subst hb; simp at k2; simp [k2]
  · simp at k1; simp [hb, k1 hb]

/-- tokens one behind the other, from a place on; what is between them is blanks -/
def Chain (l : List UInt8) : Nat → List Tok → Prop
  | e, [] => e ≤ l.length ∧ e + blankLen false (l.drop e) = l.length
  | e, t :: ts => e ≤ l.length ∧ t.place = e + blankLen false (l.drop e) ∧ 0 < t.text.length ∧ t.place + t.text.length ≤ l.length ∧ t.text = (l.drop t.place).take t.text.length ∧ Chain l (t.place + t.text.length) ts

theorem scanR_chain (l : List UInt8) : ∀ (f e : Nat), e ≤ l.length → l.length - (e + blankLen false (l.drop e)) ≤ f →
    (scanR f (l.drop (e + blankLen false (l.drop e))) (e + blankLen false (l.drop e))).2.1 = 0 → Chain l e (scanR f (l.drop (e + blankLen false (l.drop e))) (e + blankLen false (l.drop e))).1 := by
  intro f
  induction f with
  | zero =>
    intro e he hf _
    have hb := blankLen_le false (l.drop e)
    rw [List.length_drop] at hb
    simp only [scanR]
    exact ⟨he, by omega⟩
  | succ f ih =>
    intro e he hf hc
    have hb := blankLen_le false (l.drop e)
    rw [List.length_drop] at hb
    generalize hp : e + blankLen false (l.drop e) = p at *
    cases hd : l.drop p with
    | nil =>
      have := congrArg List.length hd
      rw [List.length_drop] at this
      simp at this
      simp only [scanR]
      exact ⟨he, by omega⟩
    | cons c r =>
      have hne : l.drop p ≠ [] := by rw [hd]; simp
      have hlt : p < l.length := by
        have := congrArg List.length hd
        rw [List.length_drop] at this
        simp at this
        omega
      have hfl := scanR_fault f (l.drop p) p hne
      have hst := scanR_step f (l.drop p) p hne
      have hno : ∀ q : List Tok × Int × Int, q.2.1 = 0 → comb [] q = (q.1, 0, 0) := fun q h => by simp [comb, h]
      rw [← hd]
      by_cases hcode : (read (l.drop p)).code = 0
      · have hs := hst hcode []
        rw [hno _ hc, List.nil_append, List.drop_drop] at hs
        have hnx : nextAt (l.drop p) = (read (l.drop p)).text.length + blankLen false (l.drop (p + (read (l.drop p)).text.length)) := by unfold nextAt; rw [List.drop_drop]
        have hok := read_ok (l.drop p) hne hcode
        rw [List.length_drop] at hok
        have ihh := ih (p + (read (l.drop p)).text.length) (by omega)
        have e1 : p + nextAt (l.drop p) = p + (read (l.drop p)).text.length + blankLen false (l.drop (p + (read (l.drop p)).text.length)) := by omega
        rw [← e1] at ihh
        have hz : (scanR f (l.drop (p + nextAt (l.drop p))) (p + nextAt (l.drop p))).2.1 = 0 := by
          have h2 := congrArg (fun x => x.2.1) hs
          unfold comb at h2
          by_cases h3 : (scanR f (l.drop (p + nextAt (l.drop p))) (p + nextAt (l.drop p))).2.1 = 0
          · exact h3
          · rw [if_pos h3] at h2; exact h2.symm
        have hch := ihh (by omega) hz
        have h1 := congrArg (fun x => x.1) hs
        simp only [comb, hz] at h1
        simp at h1
        rw [h1]
        exact ⟨he, hp.symm, hok.2.1, by simp; omega, hok.1, hch⟩
      · exfalso
        have hs := hfl hcode []
        have h2 := congrArg (fun x => x.2.1) hs
        rw [hno _ hc] at h2
        exact hcode h2.symm

theorem scanR_faultAt : ∀ (f : Nat) (l : List UInt8) (p : Nat), (scanR f l p).2.1 ≠ 0 → (scanR f l p).1 = [] ∧ (p : Int) ≤ (scanR f l p).2.2 ∧ (scanR f l p).2.2 ≤ (p + l.length : Nat) := by
  intro f
  induction f with
  | zero => intro l p h; simp [scanR] at h
  | succ f ih =>
    intro l p h
    cases l with
    | nil => simp [scanR] at h
    | cons c l =>
      have hne : c :: l ≠ [] := by simp
      by_cases hcode : (read (c :: l)).code = 0
      · have hok := read_ok (c :: l) hne hcode
        simp only [scanR] at h ⊢
        rw [if_neg (by simpa using hcode)] at h ⊢
        have hb := blankLen_le false (List.drop (read (c :: l)).text.length (c :: l))
        have := ih (List.drop (blankLen false (List.drop (read (c :: l)).text.length (c :: l))) (List.drop (read (c :: l)).text.length (c :: l))) (p + (read (c :: l)).text.length + blankLen false (List.drop (read (c :: l)).text.length (c :: l)))
        generalize scanR f (List.drop (blankLen false (List.drop (read (c :: l)).text.length (c :: l))) (List.drop (read (c :: l)).text.length (c :: l))) (p + (read (c :: l)).text.length + blankLen false (List.drop (read (c :: l)).text.length (c :: l))) = q at *
        by_cases hq : q.2.1 = 0
        · rw [if_neg (by simpa using hq)] at h; simp at h
        · rw [if_pos hq] at h ⊢
          have := this hq
          rw [List.length_drop, List.length_drop] at this
          rw [List.length_drop] at hb
          have h3 := hok.2.2
          have h4 := this.2.1
          have h5 := this.2.2
          refine ⟨rfl, ?_, ?_⟩
          · show (p : Int) ≤ q.2.2
            omega
          · show q.2.2 ≤ ((p + (c :: l).length : Nat) : Int)
            omega
      · simp only [scanR]
        rw [if_pos hcode]
        exact ⟨rfl, by simp, by simp; omega⟩

theorem scan_fault (l : List UInt8) (h : (scan l).2.1 ≠ 0) : (scan l).1 = [] ∧ 0 ≤ (scan l).2.2 ∧ (scan l).2.2 ≤ (l.length : Int) := by
  unfold scan at h ⊢
  by_cases hb : 12000 < l.length
  · rw [if_pos hb]; exact ⟨rfl, by simp, by simp; omega⟩
  · rw [if_neg hb] at h ⊢
    have := scanR_faultAt _ _ _ h
    have hbl := blankLen_le false l
    rw [List.length_drop] at this
    refine ⟨this.1, by omega, by omega⟩

theorem scan_chain (l : List UInt8) (h : (scan l).2.1 = 0) : Chain l 0 (scan l).1 := by
  unfold scan at h ⊢
  by_cases hb : 12000 < l.length
  · rw [if_pos hb] at h; simp at h
  · rw [if_neg hb] at h ⊢
    have := scanR_chain l l.length 0 (Nat.zero_le _) (by omega)
    simpa using this (by simpa using h)

theorem chain_len (l : List UInt8) : ∀ (ts : List Tok) (e : Nat), Chain l e ts → ts.length ≤ l.length - e
  | [], _, _ => Nat.zero_le _
  | t :: ts, e, h => by
    obtain ⟨h1, h2, h3, h4, _, h6⟩ := h
    have := chain_len l ts _ h6
    simp only [List.length_cons]
    omega

end Go.Proofs.YtmgaeapckfdbpaaDoor.Tk
