/-
  DERIVED. THE WALKS of the leaves of package token: isLetter, isDigit, isBlank, runLength, blankLength.
-/
import Derived.Test.YtplofgkofkjhdaaGreatDoorRows
import Derived.Test.YtplofgkofkjhdaaGreatDoorSpec
import Derived.WalkKit
import Derived.WalkSpells
import Derived.Lib.Strings
import Derived.Lib.Walk
namespace Go.Proofs.YtplofgkofkjhdaaGreatDoor
open Go.RowKit
set_option linter.unusedVariables false

theorem hide {p : Prop} (h : p) : Hid p := h
theorem unhide {p : Prop} (h : Hid p) : p := h
theorem ret_int {k : IntKind} {a b : Int} (h : a = b) : Ending.returned (.int k a) = .returned (.int k b) := by rw [h]
theorem ret_bool {a b : Bool} (h : a = b) : Ending.returned (.bool a) = .returned (.bool b) := by rw [h]

set_option maxHeartbeats 400000 in
theorem isLetter_any (c : Int) (w : World) :
    Calls Tryz.prog 74 #[.int .u8 c] w fun e w' => e = .returned (.bool (Tk.isL c)) ∧ w' = w := by
  unfold Tk.isL
  go_enter Tryz.func74, Tryz.ntmps74
  go_wp2
  all_goals go_ret
  all_goals refine ⟨ret_bool ?_, rfl⟩
  all_goals (rw [Bool.eq_iff_iff]; simp; try omega)

set_option maxHeartbeats 400000 in
theorem isDigit_any (c : Int) (w : World) :
    Calls Tryz.prog 59 #[.int .u8 c] w fun e w' => e = .returned (.bool (Tk.isD c)) ∧ w' = w := by
  unfold Tk.isD
  go_enter Tryz.func59, Tryz.ntmps59
  go_wp2
  all_goals go_ret
  all_goals refine ⟨ret_bool ?_, rfl⟩
  all_goals (rw [Bool.eq_iff_iff]; simp; try omega)

set_option maxHeartbeats 400000 in
theorem isBlank_any (c : Int) (w : World) :
    Calls Tryz.prog 56 #[.int .u8 c] w fun e w' => e = .returned (.bool (Tk.isB c)) ∧ w' = w := by
  unfold Tk.isB
  go_enter Tryz.func56, Tryz.ntmps56
  go_wp2
  all_goals go_ret
  all_goals simp_all

theorem byte_at (s : ByteArray) (k : Nat) (h : k < s.size) (h' : k < s.data.toList.length) : s.data.toList[k] = s[k] := by
  rfl

set_option maxHeartbeats 400000 in
theorem runLength_any (s : ByteArray) (w : World) (hs : s.size ≤ maxLen) :
    Calls Tryz.prog 57 #[.string s] w fun e w' => e = .returned (.int .i64 (Tk.runLen s.data.toList : Int)) ∧ w' = w := by
  unfold maxLen at hs
  go_enter Tryz.func57, Tryz.ntmps57
  go_wp2
  go_loop [6] (fun i => ∃ k : Nat, k ≤ s.size ∧ i = .int .i64 k ∧ Hid (∀ j (hj : j < s.data.toList.length), j < k → Tk.isR ((s.data.toList[j]).toNat : Int) = true)) (fun i => s.size - (intOf i).toNat)
  case atStart => exact ⟨0, Nat.zero_le _, rfl, fun j _ h => absurd h (Nat.not_lt_zero _)⟩
  case round =>
    obtain ⟨k, hk, rfl, H⟩ := hrel
    by_cases hlt : k < s.size
    · cases hL : Tk.isL ((s[k]).toNat : Int)
      · cases hD : Tk.isD ((s[k]).toNat : Int)
        · go_wp2_with (first
            | (go_at_call 74; refine (isLetter_any _ _).mono ?_; rintro e w' ⟨rfl, rfl⟩)
            | (go_at_call 59; refine (isDigit_any _ _).mono ?_; rintro e w' ⟨rfl, rfl⟩))
          go_ret
          refine ⟨ret_int ?_, rfl⟩
          rw [Tk.runLen_at s.data.toList k (by simpa using hlt) H.out (by rw [byte_at s k hlt]; simp [Tk.isR, hL, hD])]
        · go_wp2_with (first
            | (go_at_call 74; refine (isLetter_any _ _).mono ?_; rintro e w' ⟨rfl, rfl⟩)
            | (go_at_call 59; refine (isDigit_any _ _).mono ?_; rintro e w' ⟨rfl, rfl⟩))
          go_round
          case rel => exact ⟨k + 1, by omega, by go_num, fun j hj hjk => by
            by_cases e : j = k
            · subst e; rw [byte_at s j hlt]; simp [Tk.isR, hD]
            · exact H.out j hj (by omega)⟩
          case measure => simp [intOf]; omega
      · go_wp2_with (first
            | (go_at_call 74; refine (isLetter_any _ _).mono ?_; rintro e w' ⟨rfl, rfl⟩)
            | (go_at_call 59; refine (isDigit_any _ _).mono ?_; rintro e w' ⟨rfl, rfl⟩))
        go_round
        case rel => exact ⟨k + 1, by omega, by go_num, fun j hj hjk => by
            by_cases e : j = k
            · subst e; rw [byte_at s j hlt]; simp [Tk.isR, hL]
            · exact H.out j hj (by omega)⟩
        case measure => simp [intOf]; omega
    · have hke : k = s.size := by omega
      subst hke
      go_wp2
      go_ret
      refine ⟨ret_int ?_, rfl⟩
      rw [Tk.runLen_all s.data.toList (fun j hj => H.out j hj (by simpa using hj))]
      simp

set_option maxHeartbeats 400000 in
theorem blankLength_any (s : ByteArray) (w : World) (hs : s.size ≤ maxLen) :
    Calls Tryz.prog 33 #[.string s] w fun e w' => e = .returned (.int .i64 (Tk.blankLen false s.data.toList : Int)) ∧ w' = w := by
  unfold maxLen at hs
  have hsz : s.data.toList.length = s.size := by simp
  go_enter Tryz.func33, Tryz.ntmps33
  go_wp2
  go_loop [3, 7] (fun r i => ∃ (k : Nat) (b : Bool), k ≤ s.size ∧ r = .bool b ∧ i = .int .i64 k ∧ Hid (Tk.blankLen false s.data.toList = k + Tk.blankLen b (s.data.toList.drop k))) (fun _ i => s.size - (intOf i).toNat)
  case atStart => exact ⟨0, false, Nat.zero_le _, rfl, rfl, by show _ = _; simp⟩
  case round =>
    obtain ⟨k, b, hk, rfl, rfl, H⟩ := hrel
    by_cases hlt : k < s.size
    · have HD : Hid (s.data.toList.drop k = s[k] :: s.data.toList.drop (k + 1)) := List.drop_eq_getElem_cons (by simpa using hlt)
      by_cases h10 : ((s[k]).toNat : Int) = 10
      · have H10 : Hid (((s[k]).toNat : Int) = 10) := h10
        have t10 : (((s[k]).toNat : Int) == 10) = true := by simpa using h10
        clear h10
        go_wp2
        go_round
        case rel => exact ⟨k + 1, false, by omega, rfl, by go_num, by
          show _ = _
          rw [H.out, HD.out, Tk.blankLen_go _ _ _ (by simp [Tk.stops, Tk.flag, Tk.isB, H10.out])]
          simp [Tk.flag, H10.out]; omega⟩
        case measure => simp [intOf]; omega
      · have t10 : (((s[k]).toNat : Int) == 10) = false := by simpa using h10
        have H10 : Hid (¬ ((s[k]).toNat : Int) = 10) := h10
        clear h10
        by_cases h35 : ((s[k]).toNat : Int) = 35
        · have H35 : Hid (((s[k]).toNat : Int) = 35) := h35
          have t35 : (((s[k]).toNat : Int) == 35) = true := by simpa using h35
          clear h35
          go_wp2
          go_round
          case rel => exact ⟨k + 1, true, by omega, rfl, by go_num, by
            show _ = _
            rw [H.out, HD.out, Tk.blankLen_go _ _ _ (by simp [Tk.stops, Tk.flag, H35.out])]
            simp [Tk.flag, H35.out]; omega⟩
          case measure => simp [intOf]; omega
        · have t35 : (((s[k]).toNat : Int) == 35) = false := by simpa using h35
          have H35 : Hid (¬ ((s[k]).toNat : Int) = 35) := h35
          clear h35
          cases b
          · cases hB : Tk.isB ((s[k]).toNat : Int)
            · go_wp2_with (go_at_call 56; refine (isBlank_any _ _).mono ?_; rintro e w' ⟨rfl, rfl⟩)
              go_ret
              refine ⟨ret_int ?_, rfl⟩
              rw [H.out, HD.out, Tk.blankLen_stop _ _ _ (by simp [Tk.stops, Tk.flag, H10.out, H35.out, hB])]
              simp
            · go_wp2_with (go_at_call 56; refine (isBlank_any _ _).mono ?_; rintro e w' ⟨rfl, rfl⟩)
              go_round
              case rel => exact ⟨k + 1, false, by omega, rfl, by go_num, by
                show _ = _
                rw [H.out, HD.out, Tk.blankLen_go _ _ _ (by simp [Tk.stops, hB])]
                simp [Tk.flag, H10.out, H35.out]; omega⟩
              case measure => simp [intOf]; omega
          · go_wp2_with (go_at_call 56; refine (isBlank_any _ _).mono ?_; rintro e w' ⟨rfl, rfl⟩)
            go_round
            case rel => exact ⟨k + 1, true, by omega, rfl, by go_num, by
              show _ = _
              rw [H.out, HD.out, Tk.blankLen_go _ _ _ (by simp [Tk.stops, Tk.flag, H10.out, H35.out])]
              simp [Tk.flag, H10.out, H35.out]; omega⟩
            case measure => simp [intOf]; omega
    · have hke : k = s.size := by omega
      subst hke
      go_wp2
      go_ret
      refine ⟨ret_int ?_, rfl⟩
      rw [H.out, List.drop_of_length_le (by simp)]
      simp [Tk.blankLen]

end Go.Proofs.YtplofgkofkjhdaaGreatDoor
