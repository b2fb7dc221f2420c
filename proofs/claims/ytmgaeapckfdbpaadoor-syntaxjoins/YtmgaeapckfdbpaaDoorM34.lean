/-
  DERIVED. THE WALK of Parse, whatever the text: nothing is left as a premise but the operators' table.
-/
import Derived.Test.YtmgaeapckfdbpaaDoorM27
import Derived.Test.YtmgaeapckfdbpaaDoorPg29
import Derived.Test.YtmgaeapckfdbpaaDoorM02
namespace Go.Proofs.YtmgaeapckfdbpaaDoor
open Go.RowKit Go.IntWalk

/-- Parse at every text of up to a million bytes answers what 'parseT' says -/
theorem parse_all (s : ByteArray) (w : World) (hs : s.size ≤ 1000000) (hG : GlobT w) :
    Calls Tryd.prog 5 #[.string s] w (PPost w s.data.toList) :=
  parse_any form_any s w hs hG

end Go.Proofs.YtmgaeapckfdbpaaDoor


/-
  DERIVED. THE WALKS of the document's own small functions: small, digit, F, long, num, IsWord.
-/
namespace Go.Proofs.YtmgaeapckfdbpaaDoor
open Go.RowKit Go.IntWalk
set_option linter.unusedVariables false
set_option linter.unusedSimpArgs false

set_option maxHeartbeats 400000 in
theorem small_any (c : Int) (w : World) :
    Calls Tryd.prog 12 #[.int .u8 c] w fun e w' => e = .returned (.bool (Tk.isL c)) ∧ w' = w := by
  unfold Tk.isL
  go_enter Tryd.func12, Tryd.ntmps12
  go_wp2
  all_goals go_ret
  all_goals refine ⟨ret_bool ?_, rfl⟩
  all_goals (rw [Bool.eq_iff_iff]; simp; try omega)

set_option maxHeartbeats 400000 in
theorem digit_any (c : Int) (w : World) :
    Calls Tryd.prog 15 #[.int .u8 c] w fun e w' => e = .returned (.bool (Tk.isD c)) ∧ w' = w := by
  unfold Tk.isD
  go_enter Tryd.func15, Tryd.ntmps15
  go_wp2
  all_goals go_ret
  all_goals refine ⟨ret_bool ?_, rfl⟩
  all_goals (rw [Bool.eq_iff_iff]; simp; try omega)

set_option maxHeartbeats 400000 in
theorem fault_any (c a : Int) (w : World) :
    Calls Tryd.prog 11 #[.int .i64 c, .int .i64 a] w fun e w' => e = .returned (.agg #[.int .i64 c, .int .i64 a]) ∧ Below w.heap.size w w' := by
  go_enter Tryd.func11, Tryd.ntmps11
  go_wp2
  exact bodyPost_ret (v := .agg #[.int .i64 c, .int .i64 a]) (by simp [results, Tryd.results11, go_sem]) rfl ⟨rfl, (Below.refl _ _).alloc (Nat.le_refl _) _⟩

theorem runLen_cons (c : UInt8) (l : List UInt8) : Tk.runLen (c :: l) = if Tk.isR (c.toNat : Int) = true then Tk.runLen l + 1 else 0 := by
  unfold Tk.runLen
  rw [List.takeWhile_cons]
  split <;> simp

set_option maxHeartbeats 1000000 in
theorem long_any (s : ByteArray) (p : Nat) (w : World) (hs : s.size ≤ maxLen) (hp : p ≤ s.size) :
    Calls Tryd.prog 13 #[.string s, .int .i64 (p : Int)] w fun e w' => e = .returned (.int .i64 ((p + Tk.runLen (s.data.toList.drop p) : Nat) : Int)) ∧ w' = w := by
  unfold maxLen at hs
  obtain ⟨r, hr⟩ : ∃ r, r = p + Tk.runLen (s.data.toList.drop p) := ⟨_, rfl⟩
  rw [← hr]
  have HR := hide hr
  clear hr
  go_enter Tryd.func13, Tryd.ntmps13
  go_wp2
  go_loop [1] (fun i => ∃ k : Nat, k ≤ s.size ∧ i = .int .i64 k ∧ Hid (r = k + Tk.runLen (s.data.toList.drop k))) (fun i => s.size - (intOf i).toNat)
  case atStart => exact ⟨p, hp, rfl, HR⟩
  case round =>
    obtain ⟨k, hk, rfl, H⟩ := hrel
    by_cases hlt : k < s.size
    · have HD : Hid (s.data.toList.drop k = s[k] :: s.data.toList.drop (k + 1)) := List.drop_eq_getElem_cons (by simpa using hlt)
      cases hL : Tk.isL ((s[k]).toNat : Int)
      · cases hD : Tk.isD ((s[k]).toNat : Int)
        · go_wp2_with (first
            | (go_at_call 12; refine (small_any _ _).mono ?_; rintro e w' ⟨rfl, rfl⟩)
            | (go_at_call 15; refine (digit_any _ _).mono ?_; rintro e w' ⟨rfl, rfl⟩))
          go_ret
          refine ⟨ret_int ?_, rfl⟩
          rw [H.out, HD.out, runLen_cons, if_neg (by simp [Tk.isR, hL, hD])]
          simp
        · go_wp2_with (first
            | (go_at_call 12; refine (small_any _ _).mono ?_; rintro e w' ⟨rfl, rfl⟩)
            | (go_at_call 15; refine (digit_any _ _).mono ?_; rintro e w' ⟨rfl, rfl⟩))
          go_round
          case rel => exact ⟨k + 1, by omega, by go_num, by
            show _ = _
            rw [H.out, HD.out, runLen_cons, if_pos (by simp [Tk.isR, hD])]
            omega⟩
          case measure => simp [intOf]; omega
      · go_wp2_with (first
            | (go_at_call 12; refine (small_any _ _).mono ?_; rintro e w' ⟨rfl, rfl⟩)
            | (go_at_call 15; refine (digit_any _ _).mono ?_; rintro e w' ⟨rfl, rfl⟩))
        go_round
        case rel => exact ⟨k + 1, by omega, by go_num, by
            show _ = _
            rw [H.out, HD.out, runLen_cons, if_pos (by simp [Tk.isR, hL])]
            omega⟩
        case measure => simp [intOf]; omega
    · have hke : k = s.size := by omega
      subst hke
      go_wp2_with (first
            | (go_at_call 12; refine (small_any _ _).mono ?_; rintro e w' ⟨rfl, rfl⟩)
            | (go_at_call 15; refine (digit_any _ _).mono ?_; rintro e w' ⟨rfl, rfl⟩))
      go_ret
      refine ⟨ret_int ?_, rfl⟩
      rw [H.out, List.drop_of_length_le (by simp)]
      simp [Tk.runLen]

/-- what the document's num says -/
def numR (l : List UInt8) : Int := if Tk.badNum l then -1 else if l.all (fun c => Tk.isD (c.toNat : Int)) then Tk.numVal l else -1

set_option maxHeartbeats 2000000 in
theorem num_any (s : ByteArray) (w : World) (hs : s.size ≤ maxLen) :
    Calls Tryd.prog 16 #[.string s] w fun e w' => e = .returned (.int .i64 (numR s.data.toList)) ∧ w' = w := by
  unfold maxLen at hs
  have hsz : s.data.toList.length = s.size := by rw [Lib.size_eq]
  obtain ⟨r, hr⟩ : ∃ r, r = numR s.data.toList := ⟨_, rfl⟩
  rw [← hr]
  unfold numR at hr
  cases hbn : Tk.badNum s.data.toList
  · have hle : s.size ≤ 18 := by unfold Tk.badNum at hbn; rw [hsz] at hbn; simp at hbn; omega
    have h48 : 1 < s.size → ∀ h : 0 < s.size, (((s[0]).toNat : Int) == 48) = false := by
      intro h1 h
      have hh : s.data.toList.head? = some s[0] := by
        rw [List.head?_eq_getElem?, List.getElem?_eq_getElem (by simpa using h)]; rfl
      unfold Tk.badNum at hbn
      rw [hsz, hh] at hbn
      simp [h1] at hbn
      have h9 := hbn.2
      rw [beq_eq_false_iff_ne]
      intro e
      apply h9
      apply UInt8.toNat_inj.1
      simp
      omega
    rw [hbn] at hr
    simp only [Bool.false_eq_true, if_false] at hr
    have HR := hide hr
    clear hr hsz hbn
    have hd18 : decide ((18 : Int) < (s.size : Int)) = false := by simp; omega
    have key : Calls Tryd.prog 16 #[.string s] w fun e w' => e = .returned (.int .i64 r) ∧ w' = w := by
      by_cases h1 : 1 < s.size
      · have h0 : 0 < s.size := by omega
        have h9 := h48 h1 h0
        clear h48
        go_enter Tryd.func16, Tryd.ntmps16
        go_wp2
        go_loop [3, 4] (fun n i => ∃ k : Nat, k ≤ s.size ∧ i = .int .i64 k ∧ n = .int .i64 (Tk.numVal (s.data.toList.take k)) ∧ Hid (∀ j (hj : j < s.data.toList.length), j < k → Tk.isD ((s.data.toList[j]).toNat : Int) = true)) (fun _ i => s.size - (intOf i).toNat)
        case atStart => exact ⟨0, Nat.zero_le _, rfl, by simp [Tk.numVal], fun j _ h => absurd h (Nat.not_lt_zero _)⟩
        case round =>
          obtain ⟨k, hk, rfl, rfl, H⟩ := hrel
          have hbd := numVal_bd s k hk H.out
          have hp2 := pow_bd2 k
          obtain ⟨n, hn⟩ : ∃ n, n = Tk.numVal (s.data.toList.take k) := ⟨_, rfl⟩
          rw [← hn] at hbd ⊢
          have hn0 : 0 ≤ n := hbd.1
          have hn2 : k < s.size → n < 100000000000000000 := fun h => by have := hp2 (by omega); omega
          have HN := hide hn
          clear hn hbd hp2
          by_cases hlt : k < s.size
          · have hn3 := hn2 hlt
            clear hn2
            cases hD : Tk.isD ((s[k]).toNat : Int)
            · have hr1 : r = -1 := by
                rw [HR.out, if_neg (by
                  intro hall
                  rw [List.all_eq_true] at hall
                  have := hall s[k] (List.getElem_mem (by simpa using hlt))
                  rw [hD] at this
                  cases this)]
              subst hr1
              go_wp2_with (go_at_call 15; refine (digit_any _ _).mono ?_; rintro e w' ⟨rfl, rfl⟩)
              go_ret
              exact ⟨rfl, rfl⟩
            · have hd1 : 48 ≤ ((s[k]).toNat : Int) := by simp [Tk.isD] at hD; omega
              have hd2 : ((s[k]).toNat : Int) ≤ 57 := by simp [Tk.isD] at hD; omega
              have HD := hide hD
              go_wp2_with (go_at_call 15; refine (digit_any _ _).mono ?_; rintro e w' ⟨rfl, rfl⟩)
              go_round
              case rel =>
                refine ⟨k + 1, by omega, by go_num, ?_, ?_⟩
                · have e : Tk.numVal (List.take (k + 1) s.data.toList) = 10 * n + (((s[k]).toNat : Int) - 48) := by rw [take_snoc s k hlt, numVal_snoc, ← HN.out]; omega
                  rw [e]
                · intro j hj hjk
                  by_cases ej : j = k
                  · subst ej; rw [byte_at s j hlt]; exact HD.out
                  · exact H.out j hj (by omega)
              case measure => simp [intOf]; omega
          · have hke : k = s.size := by omega
            subst hke
            have hall : s.data.toList.all (fun c => Tk.isD (c.toNat : Int)) = true := by
              rw [List.all_eq_true]
              intro c hcm
              obtain ⟨j, hj, rfl⟩ := List.getElem_of_mem hcm
              exact H.out j hj (by rw [← Lib.size_eq] at hj; exact hj)
            have hnv : r = n := by rw [HR.out, if_pos hall, HN.out, List.take_of_length_le (by rw [← Lib.size_eq]; exact Nat.le_refl _)]
            subst hnv
            go_wp2
            go_ret
            exact ⟨rfl, rfl⟩
      · have hd1' : decide ((1 : Int) < (s.size : Int)) = false := by simp; omega
        clear h48
        go_enter Tryd.func16, Tryd.ntmps16
        go_wp2
        go_loop [3, 4] (fun n i => ∃ k : Nat, k ≤ s.size ∧ i = .int .i64 k ∧ n = .int .i64 (Tk.numVal (s.data.toList.take k)) ∧ Hid (∀ j (hj : j < s.data.toList.length), j < k → Tk.isD ((s.data.toList[j]).toNat : Int) = true)) (fun _ i => s.size - (intOf i).toNat)
        case atStart => exact ⟨0, Nat.zero_le _, rfl, by simp [Tk.numVal], fun j _ h => absurd h (Nat.not_lt_zero _)⟩
        case round =>
          obtain ⟨k, hk, rfl, rfl, H⟩ := hrel
          have hbd := numVal_bd s k hk H.out
          have hp2 := pow_bd2 k
          obtain ⟨n, hn⟩ : ∃ n, n = Tk.numVal (s.data.toList.take k) := ⟨_, rfl⟩
          rw [← hn] at hbd ⊢
          have hn0 : 0 ≤ n := hbd.1
          have hn2 : k < s.size → n < 100000000000000000 := fun h => by have := hp2 (by omega); omega
          have HN := hide hn
          clear hn hbd hp2
          by_cases hlt : k < s.size
          · have hn3 := hn2 hlt
            clear hn2
            cases hD : Tk.isD ((s[k]).toNat : Int)
            · have hr1 : r = -1 := by
                rw [HR.out, if_neg (by
                  intro hall
                  rw [List.all_eq_true] at hall
                  have := hall s[k] (List.getElem_mem (by simpa using hlt))
                  rw [hD] at this
                  cases this)]
              subst hr1
              go_wp2_with (go_at_call 15; refine (digit_any _ _).mono ?_; rintro e w' ⟨rfl, rfl⟩)
              go_ret
              exact ⟨rfl, rfl⟩
            · have hd1 : 48 ≤ ((s[k]).toNat : Int) := by simp [Tk.isD] at hD; omega
              have hd2 : ((s[k]).toNat : Int) ≤ 57 := by simp [Tk.isD] at hD; omega
              have HD := hide hD
              go_wp2_with (go_at_call 15; refine (digit_any _ _).mono ?_; rintro e w' ⟨rfl, rfl⟩)
              go_round
              case rel =>
                refine ⟨k + 1, by omega, by go_num, ?_, ?_⟩
                · have e : Tk.numVal (List.take (k + 1) s.data.toList) = 10 * n + (((s[k]).toNat : Int) - 48) := by rw [take_snoc s k hlt, numVal_snoc, ← HN.out]; omega
                  rw [e]
                · intro j hj hjk
                  by_cases ej : j = k
                  · subst ej; rw [byte_at s j hlt]; exact HD.out
                  · exact H.out j hj (by omega)
              case measure => simp [intOf]; omega
          · have hke : k = s.size := by omega
            subst hke
            have hall : s.data.toList.all (fun c => Tk.isD (c.toNat : Int)) = true := by
              rw [List.all_eq_true]
              intro c hcm
              obtain ⟨j, hj, rfl⟩ := List.getElem_of_mem hcm
              exact H.out j hj (by rw [← Lib.size_eq] at hj; exact hj)
            have hnv : r = n := by rw [HR.out, if_pos hall, HN.out, List.take_of_length_le (by rw [← Lib.size_eq]; exact Nat.le_refl _)]
            subst hnv
            go_wp2
            go_ret
            exact ⟨rfl, rfl⟩
    exact key
  · rw [hbn] at hr
    simp only [if_true] at hr
    subst hr
    unfold Tk.badNum at hbn
    rw [hsz] at hbn
    clear hsz
    by_cases h18 : 18 < s.size
    · clear hbn
      go_enter Tryd.func16, Tryd.ntmps16
      go_wp2
      go_ret
      exact ⟨rfl, rfl⟩
    · have h1 : 1 < s.size := by simp [h18] at hbn; omega
      have h48 : (((s[0]).toNat : Int) == 48) = true := by
        have hh : s.data.toList.head? = some s[0] := by
          rw [List.head?_eq_getElem?, List.getElem?_eq_getElem (by simpa using (by omega : 0 < s.size))]; rfl
        rw [hh] at hbn
        simp [h18, h1] at hbn
        simp [hbn]
      clear hbn
      go_enter Tryd.func16, Tryd.ntmps16
      go_wp2
      go_ret
      exact ⟨rfl, rfl⟩

def wordsV : Array Value := (Tk.words.map fun l => Value.string (str l)).toArray

theorem wordsV_at (k : Nat) (h : k < 32) : wordsV[k]? = some (.string (str (Tk.words[k]'h))) := by
  unfold wordsV
  rw [List.getElem?_toArray, List.getElem?_map, List.getElem?_eq_getElem (show k < Tk.words.length from h)]
  rfl

theorem cell_new (w : World) (c : Array Value) (t : TypeId) (i : Nat) : (w.alloc (.cells c t)).cell? ⟨w.heap.size, i, none⟩ = c[i]? := by
  simp

set_option maxHeartbeats 1000000 in
theorem isWord_any (s : ByteArray) (w : World) :
    Calls Tryd.prog 14 #[.string s] w fun e w' => e = .returned (.bool (Tk.isWord s.data.toList)) ∧ Below w.heap.size w w' := by
  obtain ⟨r, hr⟩ : ∃ r, r = Tk.isWord s.data.toList := ⟨_, rfl⟩
  rw [← hr]
  have HR := hide hr
  clear hr
  go_enter Tryd.func14, Tryd.ntmps14
  go_wp2
  go_loopw [4] (fun i wr => ∃ k : Nat, k ≤ 32 ∧ i = .int .i64 k ∧ Hid (∀ j (h : j < 32), wr.cell? ⟨w.heap.size, j, none⟩ = some (.string (str (Tk.words[j]'h)))) ∧ Hid (∀ j (h : j < 32), j < k → (s.data.toList == Tk.words[j]'h) = false) ∧ Below w.heap.size w wr)
    (fun i _ => 32 - (intOf i).toNat)
  case atStart => exact ⟨0, Nat.zero_le _, rfl, fun j h => (cell_new w wordsV 9 j).trans (wordsV_at j h), fun j _ h => absurd h (Nat.not_lt_zero _), (Below.refl _ _).alloc (Nat.le_refl _) _⟩
  case round =>
    obtain ⟨k, hk, rfl, HC, HN, hbr⟩ := hrel
    by_cases hlt : k < 32
    · have hc := HC.out k hlt
      obtain ⟨tx, htx⟩ : ∃ tx, tx = str (Tk.words[k]'hlt) := ⟨_, rfl⟩
      rw [← htx] at hc
      have hti : tx.toList = Tk.words[k]'hlt := by rw [Lib.toList_data, htx]; simp [str]
      have hsi : s.toList = s.data.toList := Lib.toList_data s
      cases hq : (tx.toList == s.toList)
      · have HQ : Hid ((s.data.toList == Tk.words[k]'hlt) = false) := by
          show _ = _
          rw [hti, hsi] at hq
          rw [beq_eq_false_iff_ne] at hq ⊢
          exact fun e => hq e.symm
        clear htx hti hsi
        go_wp2
        go_roundw
        case rel => exact ⟨k + 1, by omega, by go_num, HC, fun j h hjk => by
          by_cases e : j = k
          · subst e; exact HQ.out
          · exact HN.out j h (by omega), hbr⟩
        case measure => simp [intOf]; omega
      · have hr1 : r = true := by
          rw [HR.out, Tk.isWord, List.any_eq_true]
          refine ⟨Tk.words[k]'hlt, List.getElem_mem _, ?_⟩
          rw [hti, hsi] at hq
          rw [beq_iff_eq] at hq ⊢
          exact hq.symm
        subst hr1
        clear htx hti hsi
        go_wp2
        go_ret
        exact ⟨rfl, hbr⟩
    · have hr1 : r = false := by
        rw [HR.out, Tk.isWord, List.any_eq_false]
        intro x hx
        obtain ⟨j, hj, rfl⟩ := List.getElem_of_mem hx
        rw [HN.out j hj (by have : j < 32 := hj; omega)]
        simp
      subst hr1
      go_wp2
      go_ret
      exact ⟨rfl, hbr⟩

theorem runLen_full (l : List UInt8) : (Tk.runLen l == l.length) = l.all (fun c => Tk.isR (c.toNat : Int)) := by
  induction l with
  | nil => rfl
  | cons c l ih =>
    rw [runLen_cons, List.all_cons, ← ih]
    cases hR : Tk.isR (c.toNat : Int)
    · simp
    · rw [Bool.eq_iff_iff]; simp

end Go.Proofs.YtmgaeapckfdbpaaDoor
