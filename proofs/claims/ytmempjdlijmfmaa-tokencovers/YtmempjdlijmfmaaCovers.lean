/-
  DERIVED. THE WALK of TokenCovers.
-/
import Derived.Test.YtmempjdlijmfmaaBegun
import Derived.Deep.QuietTactic
import Derived.BigQuiet
import Derived.WalkSmall
namespace Go.Proofs.Ytmempjdlijmfmaa
open Go.RowKit Go.IntWalk
set_option linter.unusedVariables false
set_option linter.unusedSimpArgs false

theorem str_eq (s : ByteArray) (t : List UInt8) (p n : Nat) (h : t = (s.data.toList.drop p).take n) : str t = s.extract p (p + n) := by
  apply ByteArray.ext
  apply Array.toList_inj.1
  rw [extract_list, Nat.add_sub_cancel_left, ← h]
  simp [str]

set_option maxHeartbeats 8000000 in
set_option maxRecDepth 100000 in
theorem covers_walk (s : ByteArray) (hs : s.size ≤ maxLen) (w : World) :
    Calls Try.prog 4 #[.string s] w fun e w' => e = .returned (.bool true) ∧ Below w.heap.size w w' := by
  unfold maxLen at hs
  have hsz : s.data.toList.length = s.size := by rw [Lib.size_eq]
  by_cases hbig : 12000 < s.size
  · clear hsz
    go_enter Try.func4, Try.ntmps4
    go_wp2_with (go_at_call 6; refine (begun_any _).mono ?_; rintro e w' ⟨rfl, hb⟩)
    go_ret
    exact ⟨rfl, hb⟩
  · have hd12 : decide ((12000 : Int) < (s.size : Int)) = false := by simp; omega
    have hF := Tk.scan_fault s.data.toList
    have hC := Tk.scan_chain s.data.toList
    rw [hsz] at hF
    obtain ⟨R, hR⟩ : ∃ R, R = Tk.scan s.data.toList := ⟨_, rfl⟩
    rw [← hR] at hF hC
    have HR := hide hR
    obtain ⟨L, fc, fa⟩ := R
    clear hR hsz
    by_cases hfc : fc = 0
    · have h1 := hC hfc
      subst hfc
      have hLl := Tk.chain_len _ _ _ h1
      simp only [Nat.sub_zero] at hLl
      rw [← Lib.size_eq] at hLl
      have HC := hide h1
      clear hF hC h1
      go_enter Try.func4, Try.ntmps4
      go_wp2_with (go_at_call 6; refine (begun_any _).mono ?_; rintro e w0 ⟨rfl, hb0⟩)
      refine (scan_any _ _ (by omega)).mono ?_
      rintro e w1 ⟨v, he, hown, hb1⟩
      rw [← unhide HR] at he hown
      subst he
      obtain ⟨ao, g, cap, rfl, hc1, hc2, hT⟩ := toks_slice hown
      have hTz : 0 < L.length → g < w1.heap.size := fun h => (hT h).2.2.1
      have HT : Hid (0 < L.length → ao = some ⟨g, 0, none⟩ ∧ HoldsToks w1 g L) := fun h => ⟨(hT h).1, (hT h).2.2.2⟩
      have hbw : Below w.heap.size w w1 := hb0.trans (hb1.mono hb0.size)
      unfold maxLen at hc2
      clear hT hown hb0 hb1
      go_wp2
      go_loopw [5, 6] (fun a i wr => ∃ k e : Nat, a = .int .i64 e ∧ i = .int .i64 k ∧ e ≤ s.size ∧ ((k ≤ L.length ∧ Tk.Chain s.data.toList e (L.drop k)) ∨ k = L.length + 1) ∧ Below w1.heap.size w1 wr)
        (fun _ i _ => L.length + 1 - (intOf i).toNat)
      case atStart => exact ⟨0, 0, rfl, rfl, Nat.zero_le _, .inl ⟨Nat.zero_le _, HC.out⟩, (Below.refl _ _).alloc (Nat.le_refl _) _⟩
      case round =>
        obtain ⟨k, e, rfl, rfl, he, hk, hbr⟩ := hrel
        rcases hk with ⟨hk, hch⟩ | rfl
        · by_cases hkl : k < L.length
          · have hdk : L.drop k = L[k] :: L.drop (k + 1) := List.drop_eq_getElem_cons hkl
            rw [hdk] at hch
            obtain ⟨_, hpl, htl, hpt, htx, hch'⟩ := hch
            obtain ⟨rfl, hTok⟩ := HT.out (by omega)
            have hgz := hTz (by omega)
            have c1 := (hbr.cell (p := ⟨g, k * 4 + 1, none⟩) hgz).trans (hTok k hkl).2.1
            have c2 := (hbr.cell (p := ⟨g, k * 4 + 2, none⟩) hgz).trans (hTok k hkl).2.2.1
            rw [← Lib.size_eq] at hpt
            obtain ⟨pl, hple⟩ : ∃ pl, pl = (L[k]).place := ⟨_, rfl⟩
            obtain ⟨tx, htxe⟩ : ∃ tx, tx = str (L[k]).text := ⟨_, rfl⟩
            have hts : tx.size = (L[k]).text.length := by rw [htxe]; simp [str, ByteArray.size]
            rw [← hple, ← hts] at hpt hch' htx
            rw [← hple] at c1 hpl
            rw [← htxe] at c2
            rw [← hts] at htl
            have hepl : e ≤ pl := by omega
            have HB : Hid (Tk.blankLen false (s.data.toList.drop e) = pl - e) := by show _ = _; omega
            have HX : Hid (tx = s.extract pl (pl + tx.size)) := by
              show _ = _
              have h9 := str_eq s (L[k]).text pl tx.size htx
              rw [← htxe] at h9
              exact h9
            have HCH := hide hch'
            clear hch' hdk hpl htx hts hple htxe hTok
            go_wp2
            go_loop [5, 8] (fun a r => ∃ (p : Nat) (b : Bool), a = .int .i64 p ∧ r = .bool b ∧ p ≤ pl ∧ Hid (Tk.blankLen b (s.data.toList.drop p) = pl - p)) (fun a _ => pl - (intOf a).toNat)
            case atStart => exact ⟨e, false, rfl, rfl, hepl, HB⟩
            case round =>
              obtain ⟨p, b, rfl, rfl, hp, H⟩ := hrel
              by_cases hlt : p < pl
              · have hps : p < s.size := by omega
                have HD : Hid (s.data.toList.drop p = s[p] :: s.data.toList.drop (p + 1)) := List.drop_eq_getElem_cons (by simpa using hps)
                have hst : Tk.stops b ((s[p]).toNat : Int) = false := by
                  cases hx : Tk.stops b ((s[p]).toNat : Int)
                  · rfl
                  · have := H.out
                    rw [HD.out, Tk.blankLen_stop _ _ _ hx] at this
                    omega
                have HN : Hid (Tk.blankLen (Tk.flag b ((s[p]).toNat : Int)) (s.data.toList.drop (p + 1)) = pl - (p + 1)) := by
                  have := H.out
                  rw [HD.out, Tk.blankLen_go _ _ _ hst] at this
                  show _ = _
                  omega
                have HST := hide hst
                clear hst H HD
                by_cases h10 : ((s[p]).toNat : Int) = 10
                · have t10 : (((s[p]).toNat : Int) == 10) = true := by simpa using h10
                  have t35 : (((s[p]).toNat : Int) == 35) = false := by rw [h10]; rfl
                  have b1 : (((s[p]).toNat : Int) != 32) = true := by rw [h10]; rfl
                  have b2 : (((s[p]).toNat : Int) != 9) = true := by rw [h10]; rfl
                  have b3 : (((s[p]).toNat : Int) != 10) = false := by rw [h10]; rfl
                  have b4 : (((s[p]).toNat : Int) != 13) = true := by rw [h10]; rfl
                  have HF : Hid (Tk.flag b ((s[p]).toNat : Int) = false) := by show _ = _; simp [Tk.flag, h10]
                  clear h10
                  go_wp2
                  go_round
                  case rel => exact ⟨p + 1, false, by go_num, rfl, by omega, by rw [← HF.out]; exact HN⟩
                  case measure => simp [intOf]; omega
                · have t10 : (((s[p]).toNat : Int) == 10) = false := by simpa using h10
                  by_cases h35 : ((s[p]).toNat : Int) = 35
                  · have b1 : ((s[p]).toNat : Int) ≤ 35 := by omega
                    have b2 : 35 ≤ ((s[p]).toNat : Int) := by omega
                    have HF : Hid (Tk.flag b ((s[p]).toNat : Int) = true) := by show _ = _; simp [Tk.flag, h35]
                    clear h10 h35
                    go_wp2
                    go_round
                    case rel => exact ⟨p + 1, true, by go_num, rfl, by omega, by rw [← HF.out]; exact HN⟩
                    case measure => simp [intOf]; omega
                  · have t35 : (((s[p]).toNat : Int) == 35) = false := by simpa using h35
                    have HF : Hid (Tk.flag b ((s[p]).toNat : Int) = b) := by show _ = _; simp [Tk.flag, h35, h10]
                    cases b
                    · have hB : Tk.isB ((s[p]).toNat : Int) = true := by
                        have h1 := HST.out
                        unfold Tk.stops at h1
                        rw [HF.out] at h1
                        simpa using h1
                      have hcase : ((s[p]).toNat : Int) = 32 ∨ ((s[p]).toNat : Int) = 9 ∨ ((s[p]).toNat : Int) = 13 := by
                        simp [Tk.isB] at hB
                        omega
                      clear hB
                      have bds : (((((s[p]).toNat : Int) != 32) = false) ∧ ((((s[p]).toNat : Int) != 9) = true) ∧ ((((s[p]).toNat : Int) != 10) = true) ∧ ((((s[p]).toNat : Int) != 13) = true)) ∨ (((((s[p]).toNat : Int) != 32) = true) ∧ ((((s[p]).toNat : Int) != 9) = false) ∧ ((((s[p]).toNat : Int) != 10) = true) ∧ ((((s[p]).toNat : Int) != 13) = true)) ∨ (((((s[p]).toNat : Int) != 32) = true) ∧ ((((s[p]).toNat : Int) != 9) = true) ∧ ((((s[p]).toNat : Int) != 10) = true) ∧ ((((s[p]).toNat : Int) != 13) = false)) := by
                        rcases hcase with h | h | h <;> rw [h] <;> simp
                      clear hcase h10 h35
                      rcases bds with ⟨b1, b2, b3, b4⟩ | ⟨b1, b2, b3, b4⟩ | ⟨b1, b2, b3, b4⟩
                      all_goals
                        go_wp2
                        go_round
                        case rel => exact ⟨p + 1, false, by go_num, rfl, by omega, by rw [HF.out] at HN; exact HN⟩
                        case measure => simp [intOf]; omega
                    · clear h10 h35
                      go_wp2
                      go_round
                      case rel => exact ⟨p + 1, true, by go_num, rfl, by omega, by rw [HF.out] at HN; exact HN⟩
                      case measure => simp [intOf]; omega
              · have hpe : p = pl := by omega
                subst hpe
                go_wp2_with fail
                have hn0 : ((tx.size : Int) == 0) = false := by rw [beq_eq_false_iff_ne]; omega
                have hn1 : decide ((s.size : Int) - (p : Int) < (tx.size : Int)) = false := by simp; omega
                have hn2 : ((s.extract p (p + tx.size)).toList == tx.toList) = true := by rw [← HX.out]; simp
                go_quiet (fail)
                go_wp2
                go_roundw
                case rel => exact ⟨k + 1, p + tx.size, by go_num, by go_num, by omega, .inl ⟨by omega, HCH.out⟩, below_drewN hbr _⟩
                case measure => simp [intOf]; omega
          · have hke : L.drop k = [] := List.drop_of_length_le (by omega)
            rw [hke] at hch
            obtain ⟨_, hpl⟩ := hch
            rw [← Lib.size_eq] at hpl
            have HB : Hid (Tk.blankLen false (s.data.toList.drop e) = s.size - e) := by show _ = _; omega
            have hepl := he
            have hk1 : decide ((k : Int) < (L.length : Int)) = false := by simp; omega
            have hk2 : decide ((k : Int) ≤ (L.length : Int)) = true := by simp; omega
            have hk3 : decide ((s.size : Int) < (e : Int)) = false := by simp; omega
            clear hpl hke
            go_wp2
            go_loop [5, 8] (fun a r => ∃ (p : Nat) (b : Bool), a = .int .i64 p ∧ r = .bool b ∧ p ≤ s.size ∧ Hid (Tk.blankLen b (s.data.toList.drop p) = s.size - p)) (fun a _ => s.size - (intOf a).toNat)
            case atStart => exact ⟨e, false, rfl, rfl, hepl, HB⟩
            case round =>
              obtain ⟨p, b, rfl, rfl, hp, H⟩ := hrel
              by_cases hlt : p < s.size
              · have hps : p < s.size := by omega
                have HD : Hid (s.data.toList.drop p = s[p] :: s.data.toList.drop (p + 1)) := List.drop_eq_getElem_cons (by simpa using hps)
                have hst : Tk.stops b ((s[p]).toNat : Int) = false := by
                  cases hx : Tk.stops b ((s[p]).toNat : Int)
                  · rfl
                  · have := H.out
                    rw [HD.out, Tk.blankLen_stop _ _ _ hx] at this
                    omega
                have HN : Hid (Tk.blankLen (Tk.flag b ((s[p]).toNat : Int)) (s.data.toList.drop (p + 1)) = s.size - (p + 1)) := by
                  have := H.out
                  rw [HD.out, Tk.blankLen_go _ _ _ hst] at this
                  show _ = _
                  omega
                have HST := hide hst
                clear hst H HD
                by_cases h10 : ((s[p]).toNat : Int) = 10
                · have t10 : (((s[p]).toNat : Int) == 10) = true := by simpa using h10
                  have t35 : (((s[p]).toNat : Int) == 35) = false := by rw [h10]; rfl
                  have b1 : (((s[p]).toNat : Int) != 32) = true := by rw [h10]; rfl
                  have b2 : (((s[p]).toNat : Int) != 9) = true := by rw [h10]; rfl
                  have b3 : (((s[p]).toNat : Int) != 10) = false := by rw [h10]; rfl
                  have b4 : (((s[p]).toNat : Int) != 13) = true := by rw [h10]; rfl
                  have HF : Hid (Tk.flag b ((s[p]).toNat : Int) = false) := by show _ = _; simp [Tk.flag, h10]
                  clear h10
                  go_wp2
                  go_round
                  case rel => exact ⟨p + 1, false, by go_num, rfl, by omega, by rw [← HF.out]; exact HN⟩
                  case measure => simp [intOf]; omega
                · have t10 : (((s[p]).toNat : Int) == 10) = false := by simpa using h10
                  by_cases h35 : ((s[p]).toNat : Int) = 35
                  · have b1 : ((s[p]).toNat : Int) ≤ 35 := by omega
                    have b2 : 35 ≤ ((s[p]).toNat : Int) := by omega
                    have HF : Hid (Tk.flag b ((s[p]).toNat : Int) = true) := by show _ = _; simp [Tk.flag, h35]
                    clear h10 h35
                    go_wp2
                    go_round
                    case rel => exact ⟨p + 1, true, by go_num, rfl, by omega, by rw [← HF.out]; exact HN⟩
                    case measure => simp [intOf]; omega
                  · have t35 : (((s[p]).toNat : Int) == 35) = false := by simpa using h35
                    have HF : Hid (Tk.flag b ((s[p]).toNat : Int) = b) := by show _ = _; simp [Tk.flag, h35, h10]
                    cases b
                    · have hB : Tk.isB ((s[p]).toNat : Int) = true := by
                        have h1 := HST.out
                        unfold Tk.stops at h1
                        rw [HF.out] at h1
                        simpa using h1
                      have hcase : ((s[p]).toNat : Int) = 32 ∨ ((s[p]).toNat : Int) = 9 ∨ ((s[p]).toNat : Int) = 13 := by
                        simp [Tk.isB] at hB
                        omega
                      clear hB
                      have bds : (((((s[p]).toNat : Int) != 32) = false) ∧ ((((s[p]).toNat : Int) != 9) = true) ∧ ((((s[p]).toNat : Int) != 10) = true) ∧ ((((s[p]).toNat : Int) != 13) = true)) ∨ (((((s[p]).toNat : Int) != 32) = true) ∧ ((((s[p]).toNat : Int) != 9) = false) ∧ ((((s[p]).toNat : Int) != 10) = true) ∧ ((((s[p]).toNat : Int) != 13) = true)) ∨ (((((s[p]).toNat : Int) != 32) = true) ∧ ((((s[p]).toNat : Int) != 9) = true) ∧ ((((s[p]).toNat : Int) != 10) = true) ∧ ((((s[p]).toNat : Int) != 13) = false)) := by
                        rcases hcase with h | h | h <;> rw [h] <;> simp
                      clear hcase h10 h35
                      rcases bds with ⟨b1, b2, b3, b4⟩ | ⟨b1, b2, b3, b4⟩ | ⟨b1, b2, b3, b4⟩
                      all_goals
                        go_wp2
                        go_round
                        case rel => exact ⟨p + 1, false, by go_num, rfl, by omega, by rw [HF.out] at HN; exact HN⟩
                        case measure => simp [intOf]; omega
                    · clear h10 h35
                      go_wp2
                      go_round
                      case rel => exact ⟨p + 1, true, by go_num, rfl, by omega, by rw [HF.out] at HN; exact HN⟩
                      case measure => simp [intOf]; omega
              · have hpe : p = s.size := by omega
                subst hpe
                go_wp2
                go_roundw
                case rel => exact ⟨k + 1, s.size, rfl, by go_num, Nat.le_refl _, .inr (by omega), hbr⟩
                case measure => simp [intOf]; omega
        · go_wp2
          go_ret
          exact ⟨rfl, hbw.trans (hbr.mono hbw.size)⟩
    · have h1 := hF hfc
      simp at h1
      obtain ⟨rfl, hfa0, hfa1⟩ := h1
      have hcb : (fc == 0) = false := by simpa using hfc
      clear hF hC
      go_enter Try.func4, Try.ntmps4
      go_wp2_with (go_at_call 6; refine (begun_any _).mono ?_; rintro e w0 ⟨rfl, hb0⟩)
      refine (scan_any _ _ (by omega)).mono ?_
      rintro e w1 ⟨v, he, hown, hb1⟩
      rw [← unhide HR] at he hown
      subst he
      obtain ⟨ao, g, cap, rfl, hc1, hc2, hT⟩ := toks_slice hown
      clear hT hown
      go_wp2
      go_ret
      refine ⟨ret_bool ?_, (hb0.trans (hb1.mono hb0.size)).alloc (Nat.le_trans hb0.size hb1.size) _⟩
      simp [hfa0, hfa1]

end Go.Proofs.Ytmempjdlijmfmaa
