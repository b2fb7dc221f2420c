/-
  DERIVED. THE WALKS of makeToken, readSign, readWordOrName, readNumber, read.
-/
import Derived.Test.YtplofgkofkjhdaaGreatDoorLib
import Derived.RegionTactic
namespace Go.Proofs.YtplofgkofkjhdaaGreatDoor
open Go.RowKit
set_option linter.unusedVariables false
set_option linter.unusedSimpArgs false

def aggT (k a : Int) (s : ByteArray) (n : Int) : Value := .agg #[.int .i64 k, .int .i64 a, .string s, .int .i64 n]

/-- what a call of the readers answers -/
def gotV (g : Tk.Got) : Value := .tuple #[.agg #[.int .i64 g.kind, .int .i64 0, .string ⟨g.text.toArray⟩, .int .i64 g.n], .int .i64 g.code]

set_option maxHeartbeats 1000000 in
theorem makeToken_any (k : Int) (s : ByteArray) (w : World) (hlim : s.size ≤ 281474976710656) :
    Calls Tryz.prog 76 #[.int .i64 k, .string s] w fun e w' => e = .returned (.agg #[.int .i64 k, .int .i64 0, .string s, .int .i64 0]) ∧ Below w.heap.size w w' := by
  go_enter Tryz.func76, Tryz.ntmps76
  go_wp2_with fail
  refine (clone_any _ _ hlim).mono ?_
  rintro e w1 ⟨rfl, hb⟩
  obtain ⟨hc, hf⟩ := bcell hb
  have hz : w.heap.size < w1.heap.size := by have := hb.size; simp at this; omega
  go_wp2
  have hb0 : Below w.heap.size w w1 := ((Below.refl _ w).alloc (Nat.le_refl _) _).trans (hb.mono (by simp))
  exact bodyPost_ret (v := .agg #[.int .i64 k, .int .i64 0, .string s, .int .i64 0]) (by simp [results, Tryz.results76, go_sem, hc]) rfl ⟨rfl, (((hb0.setCell (by simp) _).setCell (by simp) _).setCell (by simp) _).setCell (by simp) _⟩


theorem mk_toList (s : ByteArray) : (⟨s.data.toList.toArray⟩ : ByteArray) = s := by cases s; simp

theorem mk_take (s : ByteArray) (k : Nat) : (⟨(s.data.toList.take k).toArray⟩ : ByteArray) = s.extract 0 k := by
  apply ByteArray.ext
  rw [ByteArray.data_extract]
  apply Array.toList_inj.1
  simp

theorem extract_list (s : ByteArray) (a b : Nat) : (s.extract a b).data.toList = (s.data.toList.drop a).take (b - a) := by
  rw [ByteArray.data_extract]
  simp

theorem signLen_le (l : List UInt8) : Tk.signLen l ≤ l.length := by
  unfold Tk.signLen
  split
  · simp
  · rename_i c l
    split
    · rename_i h
      cases l with
      | nil => simp at h
      | cons d l => simp
    · split <;> simp

set_option maxHeartbeats 1000000 in
theorem readSign_any (s : ByteArray) (w : World) (hlim : s.size ≤ 281474976710656) :
    Calls Tryz.prog 58 #[.string s] w fun e w' => e = .returned (gotV (Tk.readSign s.data.toList)) ∧ Below w.heap.size w w' := by
  by_cases h0 : Tk.signLen s.data.toList = 0
  · have h1 : ((Tk.signLen s.data.toList : Int) == 0) = true := by simp [h0]
    have HG : Hid (Tk.readSign s.data.toList = Tk.bad 1) := by show _ = _; simp [Tk.readSign, h0]
    clear h0
    go_enter Tryz.func58, Tryz.ntmps58
    go_wp2_with (go_at_call 75; refine (signLength_any _ _).mono ?_; rintro e w' ⟨rfl, rfl⟩)
    rw [HG.out]
    exact bodyPost_ret (v := gotV (Tk.bad 1)) (by simp [results, Tryz.results58, go_sem, gotV, Tk.bad]) rfl ⟨rfl, (Below.refl _ _).alloc (Nat.le_refl _) _⟩
  · have h1 : ((Tk.signLen s.data.toList : Int) == 0) = false := by simp [h0]
    have hle := signLen_le s.data.toList
    rw [← Lib.size_eq] at hle
    have HG : Hid (Tk.readSign s.data.toList = ⟨4, s.data.toList.take (Tk.signLen s.data.toList), 0, 0⟩) := by show _ = _; simp [Tk.readSign, h0]
    clear h0
    go_enter Tryz.func58, Tryz.ntmps58
    go_wp2_with (go_at_call 75; refine (signLength_any _ _).mono ?_; rintro e w' ⟨rfl, rfl⟩)
    refine (makeToken_any _ _ _ (by rw [ByteArray.size_extract]; omega)).mono ?_
    rintro e w1 ⟨rfl, hb⟩
    obtain ⟨hc, hf⟩ := bcell hb
    go_wp2
    rw [HG.out]
    have hb0 : Below w.heap.size w w1 := ((Below.refl _ w).alloc (Nat.le_refl _) _).trans (hb.mono (by simp))
    exact bodyPost_ret (v := gotV ⟨4, s.data.toList.take (Tk.signLen s.data.toList), 0, 0⟩) (by simp [results, Tryz.results58, go_sem, hc, gotV, mk_take]) rfl ⟨rfl, (((hb0.setCell (by simp) _).setCell (by simp) _).setCell (by simp) _).setCell (by simp) _⟩

set_option maxHeartbeats 1000000 in
theorem readWordOrName_any (s : ByteArray) (w : World) (hlim : s.size ≤ 281474976710656) :
    Calls Tryz.prog 61 #[.string s] w fun e w' => e = .returned (gotV (Tk.readName s.data.toList)) ∧ Below w.heap.size w w' := by
  have hsz : s.data.toList.length = s.size := by rw [Lib.size_eq]
  cases h1 : Tk.isWord s.data.toList
  · by_cases h2 : 12 < s.size
    · have HG : Hid (Tk.readName s.data.toList = Tk.bad 3) := by show _ = _; simp [Tk.readName, h1, hsz, h2]
      clear hsz
      go_enter Tryz.func61, Tryz.ntmps61
      go_wp2_with (go_at_call 77; refine (word_any _ _).mono ?_; rintro e w' ⟨rfl, rfl⟩)
      rw [HG.out]
      exact bodyPost_ret (v := gotV (Tk.bad 3)) (by simp [results, Tryz.results61, go_sem, gotV, Tk.bad]) rfl ⟨rfl, (Below.refl _ _).alloc (Nat.le_refl _) _⟩
    · have HG : Hid (Tk.readName s.data.toList = ⟨2, s.data.toList, 0, 0⟩) := by show _ = _; simp [Tk.readName, h1, hsz, h2]
      clear hsz
      go_enter Tryz.func61, Tryz.ntmps61
      go_wp2_with (go_at_call 77; refine (word_any _ _).mono ?_; rintro e w' ⟨rfl, rfl⟩)
      refine (makeToken_any _ _ _ hlim).mono ?_
      rintro e w1 ⟨rfl, hb⟩
      obtain ⟨hc, hf⟩ := bcell hb
      go_wp2
      rw [HG.out]
      have hb0 : Below w.heap.size w w1 := ((Below.refl _ w).alloc (Nat.le_refl _) _).trans (hb.mono (by simp))
      exact bodyPost_ret (v := gotV ⟨2, s.data.toList, 0, 0⟩) (by simp [results, Tryz.results61, go_sem, hc, gotV, mk_toList]) rfl ⟨rfl, (((hb0.setCell (by simp) _).setCell (by simp) _).setCell (by simp) _).setCell (by simp) _⟩
  · have HG : Hid (Tk.readName s.data.toList = ⟨1, s.data.toList, 0, 0⟩) := by show _ = _; simp [Tk.readName, h1]
    clear hsz
    go_enter Tryz.func61, Tryz.ntmps61
    go_wp2_with (go_at_call 77; refine (word_any _ _).mono ?_; rintro e w' ⟨rfl, rfl⟩)
    refine (makeToken_any _ _ _ hlim).mono ?_
    rintro e w1 ⟨rfl, hb⟩
    obtain ⟨hc, hf⟩ := bcell hb
    go_wp2
    rw [HG.out]
    have hb0 : Below w.heap.size w w1 := ((Below.refl _ w).alloc (Nat.le_refl _) _).trans (hb.mono (by simp))
    exact bodyPost_ret (v := gotV ⟨1, s.data.toList, 0, 0⟩) (by simp [results, Tryz.results61, go_sem, hc, gotV, mk_toList]) rfl ⟨rfl, (((hb0.setCell (by simp) _).setCell (by simp) _).setCell (by simp) _).setCell (by simp) _⟩

theorem numVal_snoc (l : List UInt8) (c : UInt8) : Tk.numVal (l ++ [c]) = Tk.numVal l * 10 + ((c.toNat : Int) - 48) := by
  simp [Tk.numVal, List.foldl_append]

theorem take_snoc (s : ByteArray) (k : Nat) (h : k < s.size) : s.data.toList.take (k + 1) = s.data.toList.take k ++ [s[k]] := by
  rw [List.take_succ_eq_append_getElem (by simpa using h)]; rfl

theorem numVal_bd (s : ByteArray) : ∀ k : Nat, k ≤ s.size → (∀ j (hj : j < s.data.toList.length), j < k → Tk.isD ((s.data.toList[j]).toNat : Int) = true) → 0 ≤ Tk.numVal (s.data.toList.take k) ∧ Tk.numVal (s.data.toList.take k) < (10 : Int) ^ k
  | 0, _, _ => by simp [Tk.numVal]
  | k + 1, hk, h => by
    have ih := numVal_bd s k (by omega) (fun j hj hjk => h j hj (by omega))
    have hd := h k (by rw [← Lib.size_eq]; omega) (by omega)
    rw [take_snoc s k (by omega), numVal_snoc]
    have e : s.data.toList[k]'(by rw [← Lib.size_eq]; omega) = s[k]'(by omega) := rfl
    rw [e] at hd
    simp [Tk.isD] at hd
    have h10 : (10 : Int) ^ (k + 1) = 10 ^ k * 10 := Int.pow_succ 10 k
    omega

theorem pow_bd : ∀ k : Nat, k ≤ 18 → (10 : Int) ^ k ≤ 1000000000000000000 := by
  intro k hk
  have : (10 : Int) ^ k ≤ 10 ^ 18 := by
    have h := Nat.pow_le_pow_right (n := 10) (by omega) hk
    exact_mod_cast h
  simpa using this


end Go.Proofs.YtplofgkofkjhdaaGreatDoor
