/-
  DERIVED. THE WALKS of what package token calls of Go's library (strings.HasPrefix, strings.IndexByte, strings.Clone), and of Word, signLength, makeToken.
-/
import Derived.Test.YtmgaeapckfdbpabDoorM00
import Derived.Lib.Slices
import Derived.Lib.Bytealg
import Derived.Lib.BufferWrite
import Derived.Lib.UnsafeStr
import Derived.Lib.Hide
import Derived.Laws.MakeOwn
import Derived.RegionTactic
namespace Go.Proofs.YtmgaeapckfdbpabDoor
open Go.RowKit
set_option linter.unusedVariables false

set_option maxHeartbeats 1000000 in
theorem hasPrefix33 (s p : ByteArray) (w : World) :
    Calls Tryd.prog 48 #[.string s, .string p] w fun e w' => e = .returned (.bool (Lib.hasPrefix s.data.toList p.data.toList)) ∧ w' = w := by
  rw [← Lib.hasPrefix_of_take, ← Lib.size_eq, ← Lib.size_eq]
  go_enter Tryd.func48, Tryd.ntmps48
  go_wp2
  · rename_i h
    go_ret
    refine ⟨?_, rfl⟩
    show Ending.returned (Value.bool ((s.extract 0 p.size).toList == p.toList)) = _
    rw [Lib.extract_toList, Lib.toList_data]
    simp [h]
  · rename_i h
    go_ret
    refine ⟨?_, rfl⟩
    show Ending.returned (Value.bool false) = _
    simp [h]

set_option maxHeartbeats 1000000 in
theorem hasPrefix_any (s p : ByteArray) (w : World) :
    Calls Tryd.prog 41 #[.string s, .string p] w fun e w' => e = .returned (.bool (Lib.hasPrefix s.data.toList p.data.toList)) ∧ w' = w := by
  go_enter Tryd.func41, Tryd.ntmps41
  go_wp2_with (go_at_call 48; refine (hasPrefix33 _ _ _).mono ?_; rintro e w' ⟨rfl, rfl⟩)
  go_ret
  exact ⟨rfl, rfl⟩

set_option maxHeartbeats 1000000 in
set_option maxRecDepth 100000 in
theorem indexByte34 (s : ByteArray) (c : Int) (w : World) :
    Calls Tryd.prog 49 #[.string s, .int .u8 c] w fun e w' => e = .returned (.int .i64 (Lib.indexByte s.data.toList c.toNat.toUInt8)) ∧ w' = w := by
  go_enter Tryd.func49, Tryd.ntmps49
  go_wp2
  rw [run_callFunc_extern Tryd.func55 (by kernel_rfl) (by kernel_rfl) (by kernel_rfl) (e := Extern.BytealgIndexByte.indexByte) (by kernel_rfl), Lib.run_indexByteString]
  simp only [Result.andThen]
  rw [Oper.upon_value]
  go_wp2
  go_ret
  exact ⟨rfl, rfl⟩

set_option maxHeartbeats 1000000 in
theorem indexByte_any (s : ByteArray) (c : Int) (w : World) :
    Calls Tryd.prog 42 #[.string s, .int .u8 c] w fun e w' => e = .returned (.int .i64 (Lib.indexByte s.data.toList c.toNat.toUInt8)) ∧ w' = w := by
  go_enter Tryd.func42, Tryd.ntmps42
  go_wp2_with (go_at_call 49; refine (indexByte34 _ _ _).mono ?_; rintro e w' ⟨rfl, rfl⟩)
  go_ret
  exact ⟨rfl, rfl⟩

set_option maxHeartbeats 2000000 in
theorem word_any (s : ByteArray) (w : World) :
    Calls Tryd.prog 32 #[.string s] w fun e w' => e = .returned (.bool (Tk.isWord s.data.toList)) ∧ w' = w := by
  rw [← Lib.toList_data]
  go_enter Tryd.func32, Tryd.ntmps32
  go_wp2
  all_goals go_ret
  all_goals refine ⟨ret_bool ?_, rfl⟩
  all_goals first
    | (simp only [Tk.isWord, Tk.words, List.any_cons, List.any_nil, *, Bool.or_true, Bool.true_or, Bool.or_false]; done)
    | (exfalso; simp_all; done)

theorem indexByte_nonneg (c : UInt8) : ∀ l : List UInt8, decide (0 ≤ Lib.indexByte l c) = l.any fun x => x == c
  | [] => by simp [Lib.indexByte]
  | b :: l => by
    have ih := indexByte_nonneg c l
    have hg := Lib.indexByte_ge l c
    unfold Lib.indexByte
    by_cases hb : (b == c) = true
    · simp [hb]
    · have hb' : (b == c) = false := by simpa using hb
      rw [List.any_cons, hb', Bool.false_or, ← ih]
      simp only [Bool.false_eq_true, if_false]
      by_cases h1 : Lib.indexByte l c = -1
      · simp [h1]
      · have h2 : (Lib.indexByte l c == -1) = false := by simpa using h1
        simp only [h2, Bool.false_eq_true, if_false]
        rw [Bool.eq_iff_iff]; simp; omega

theorem signLen_of (l : List UInt8) : Tk.signLen l = if Lib.hasPrefix l [61, 61] then 2 else if Lib.hasPrefix l [45, 62] then 2 else if l ≠ [] ∧ Tk.isS (l.headD 0) = true then 1 else 0 := by
  match l with
  | [] => simp [Tk.signLen, Lib.hasPrefix]
  | [c] => simp [Tk.signLen, Lib.hasPrefix]
  | c :: d :: l =>
    simp only [Tk.signLen, Lib.hasPrefix, List.isPrefixOf, List.head?_cons, List.headD_cons]
    by_cases h1 : c = 61 <;> by_cases h2 : d = 61 <;> by_cases h3 : c = 45 <;> by_cases h4 : d = 62 <;> simp [h1, h2, h3, h4, eq_comm (a := (61 : UInt8)), eq_comm (a := (45 : UInt8)), eq_comm (a := (62 : UInt8))]


set_option maxHeartbeats 1000000 in
theorem signLength_any (s : ByteArray) (w : World) :
    Calls Tryd.prog 30 #[.string s] w fun e w' => e = .returned (.int .i64 (Tk.signLen s.data.toList : Int)) ∧ w' = w := by
  obtain ⟨r, hr⟩ : ∃ r, r = Tk.signLen s.data.toList := ⟨_, rfl⟩
  rw [← hr]
  rw [signLen_of] at hr
  have HR := hide hr
  clear hr
  cases h1 : Lib.hasPrefix s.data.toList [61, 61]
  · cases h2 : Lib.hasPrefix s.data.toList [45, 62]
    · by_cases h0 : s.size = 0
      · have hs : s = ⟨#[]⟩ := ByteArray.ext (Array.eq_empty_of_size_eq_zero h0)
        subst hs
        go_enter Tryd.func30, Tryd.ntmps30
        go_wp2_with (first
          | (go_at_call 41; refine (hasPrefix_any _ _ _).mono ?_; rintro e w' ⟨rfl, rfl⟩)
          | (go_at_call 42; refine (indexByte_any _ _ _).mono ?_; rintro e w' ⟨rfl, rfl⟩))
        go_ret
        exact ⟨ret_int (by rw [unhide HR]; simp [h1, h2]), rfl⟩
      · have hp : 0 < s.size := by omega
        have hem : s.toList.isEmpty = false := by
          rw [Lib.toList_data]
          cases hc : s.data.toList with
          | nil => exfalso; rw [Lib.size_eq, hc] at hp; simp at hp
          | cons a b => rfl
        have hne : ¬ s.toList = [] := by intro e; rw [e] at hem; simp at hem
        have HS := hide (indexByte_nonneg s[0] [40, 41, 123, 125, 91, 93, 60, 62, 44, 59, 58, 43, 45, 42, 47, 37, 61, 94])
        have HD : Hid (s.data.toList.headD 0 = s[0] ∧ s.data.toList ≠ []) := by
          rw [Lib.toList_data] at hne
          refine ⟨?_, hne⟩
          cases hc : s.data.toList with
          | nil => exact absurd hc hne
          | cons a b =>
            have : s.data.toList[0]'(by simp; omega) = a := by simp [hc]
            rw [List.headD_cons, ← this]; rfl
        by_cases hi : 0 ≤ Lib.indexByte [40, 41, 123, 125, 91, 93, 60, 62, 44, 59, 58, 43, 45, 42, 47, 37, 61, 94] s[0]
        · go_enter Tryd.func30, Tryd.ntmps30
          go_wp2_with (first
            | (go_at_call 41; refine (hasPrefix_any _ _ _).mono ?_; rintro e w' ⟨rfl, rfl⟩)
            | (go_at_call 42; refine (indexByte_any _ _ _).mono ?_; rintro e w' ⟨rfl, rfl⟩))
          go_ret
          refine ⟨ret_int ?_, rfl⟩
          have hS : Tk.isS s[0] = true := by rw [Tk.isS, Tk.signs, ← unhide HS]; simpa using hi
          rw [unhide HR, HD.out.1]; simp [h1, h2, hS, HD.out.2]
        · have hi' : Lib.indexByte [40, 41, 123, 125, 91, 93, 60, 62, 44, 59, 58, 43, 45, 42, 47, 37, 61, 94] s[0] < 0 := by omega
          go_enter Tryd.func30, Tryd.ntmps30
          go_wp2_with (first
            | (go_at_call 41; refine (hasPrefix_any _ _ _).mono ?_; rintro e w' ⟨rfl, rfl⟩)
            | (go_at_call 42; refine (indexByte_any _ _ _).mono ?_; rintro e w' ⟨rfl, rfl⟩))
          go_ret
          refine ⟨ret_int ?_, rfl⟩
          have hS : Tk.isS s[0] = false := by rw [Tk.isS, Tk.signs, ← unhide HS]; simpa using hi'
          rw [unhide HR, HD.out.1]; simp [h1, h2, hS]
    · go_enter Tryd.func30, Tryd.ntmps30
      go_wp2_with (first
        | (go_at_call 41; refine (hasPrefix_any _ _ _).mono ?_; rintro e w' ⟨rfl, rfl⟩)
        | (go_at_call 42; refine (indexByte_any _ _ _).mono ?_; rintro e w' ⟨rfl, rfl⟩))
      go_ret
      exact ⟨ret_int (by rw [unhide HR]; simp [h1, h2]), rfl⟩
  · go_enter Tryd.func30, Tryd.ntmps30
    go_wp2_with (first
      | (go_at_call 41; refine (hasPrefix_any _ _ _).mono ?_; rintro e w' ⟨rfl, rfl⟩)
      | (go_at_call 42; refine (indexByte_any _ _ _).mono ?_; rintro e w' ⟨rfl, rfl⟩))
    go_ret
    exact ⟨ret_int (by rw [unhide HR]; simp [h1]), rfl⟩

theorem Tryd.info5 : (Tryd.prog.info? 5).map (fun i => (i.zero, i.size, i.bytes)) = some (some (.int .u8 0), 1, 1) := by kernel_rfl

set_option maxHeartbeats 4000000 in
set_option maxRecDepth 100000 in
theorem clone35 (s : ByteArray) (w : World) (hlim : s.size ≤ 281474976710656) :
    Calls Tryd.prog 50 #[.string s] w fun e w' => e = .returned (.string s) ∧ Below w.heap.size w w' := by
  by_cases h0 : s.size = 0
  · have hs : s = ⟨#[]⟩ := ByteArray.ext (Array.eq_empty_of_size_eq_zero h0)
    subst hs
    go_enter Tryd.func50, Tryd.ntmps50
    go_wp2
    go_ret
    exact ⟨rfl, Below.refl _ _⟩
  · obtain ⟨i0, hi, hz0, hz1, hz2⟩ := info_parts Tryd.info5
    have hinfo : (Tryd.prog.info? 5).map (·.size) = some 1 := by rw [hi]; simp [hz1]
    have hco : Tryd.prog.cellsOf 5 = 1 := by simp [Program.cellsOf, hi, hz1]
    obtain ⟨M, hM⟩ : ∃ M, M = madeCells (Value.int .u8 0).cells (((s.size : Nat) : Int).toNat * i0.size) := ⟨_, rfl⟩
    have hMs : M.size = s.size := by rw [hM, size_madeCells, hz1]; simp
    have hmk : ∀ W : World, (Instr.makeSlice 91 (.int .i64 (s.size : Int)) (.int .i64 (s.size : Int))).run Tryd.prog W = .ok (.slice (some ⟨W.heap.size, 0, none⟩) s.size s.size) (W.alloc (.cells M 5)) := fun W => by
      have h := run_make (P := Tryd.prog) W 91 5 i0 (.int .u8 0) Tryd.underlying91 hi hz0 .i64 .i64 (s.size : Int) (s.size : Int) (by omega) (by omega) (by rw [hz2]; omega) (by omega)
      rw [← hM] at h
      simpa using h
    clear hM
    have hcp := Lib.run_copy_row_string (P := Tryd.prog) (w.alloc (.cells M 5)) 91 9 3 5 w.heap.size 0 s.size s.size s M 5 Tryd.underlying91 hinfo (heap_alloc_new w _) (Nat.le_refl _) (by omega)
    obtain ⟨Y, hY⟩ : ∃ Y, Y = (M.toList.take 0 ++ Lib.byteCells s.data.toList ++ M.toList.drop (0 + s.size)).toArray := ⟨_, rfl⟩
    rw [← hY] at hcp
    have hYl : Y.toList = Lib.byteCells s.data.toList := by
      rw [hY, List.toList_toArray, List.take_zero, List.nil_append, List.drop_of_length_le (by rw [Array.length_toList]; omega), List.append_nil]
    have hYs : Y.size = s.size := by rw [← Array.length_toList, hYl, Lib.byteCells_length, ← Lib.size_eq]
    have hgY : ((w.alloc (.cells M 5)).setRow w.heap.size Y).heap[w.heap.size]? = some (.cells Y 5 (0, 0)) := setRow_heap _ _ M _ 5 (0, 0) (heap_alloc_new w _)
    have hne : s.data.toList ≠ [] := fun e => h0 (by rw [Lib.size_eq, e]; rfl)
    have hUS := Lib.run_unsafeString_row (P := Tryd.prog) ((w.alloc (.cells M 5)).setRow w.heap.size Y) 92 3 9 5 Tryd.underlying92 hco w.heap.size Y.size (by unfold World.shape?; rw [hgY]) s.data.toList hne (by rw [← Lib.size_eq]; omega) (by rw [← Lib.size_eq]; omega)
      (fun j x hx => Lib.cells_of_row hgY Y.size j _ (by rw [List.take_of_length_le (by rw [Array.length_toList]; exact Nat.le_refl _), hYl]; simp [Lib.byteCells, hx]))
    rw [← Lib.size_eq] at hUS
    clear hY
    go_enter Tryd.func50, Tryd.ntmps50
    go_wp2
    go_ret
    have hb1 : Below w.heap.size w (w.alloc (.cells M 5)) := (Below.refl _ w).alloc (Nat.le_refl _) _
    have hb2 : Below w.heap.size (w.alloc (.cells M 5)) ((w.alloc (.cells M 5)).setRow w.heap.size Y) := ⟨rfl, rfl, rfl, by simp, fun k hk => setRow_other _ _ _ _ (by omega)⟩
    exact ⟨rfl, Lib.below_freeze (hb1.trans hb2) (p := ⟨w.heap.size, 0, none⟩) (Nat.le_refl _) _⟩

set_option maxHeartbeats 1000000 in
theorem clone_any (s : ByteArray) (w : World) (hlim : s.size ≤ 281474976710656) :
    Calls Tryd.prog 43 #[.string s] w fun e w' => e = .returned (.string s) ∧ Below w.heap.size w w' := by
  go_enter Tryd.func43, Tryd.ntmps43
  go_wp2_with (go_at_call 50; refine (clone35 _ _ hlim).mono ?_; rintro e w' ⟨rfl, hb⟩)
  go_ret
  exact ⟨rfl, hb⟩

theorem bcell {W w1 : World} (hb : Below W.heap.size W w1) : (∀ b o, b < W.heap.size → w1.cell? ⟨b, o, none⟩ = W.cell? ⟨b, o, none⟩) ∧ (∀ b o, b < W.heap.size → w1.frozen? ⟨b, o, none⟩ = W.frozen? ⟨b, o, none⟩) :=
  ⟨fun b o h => hb.cell (p := ⟨b, o, none⟩) h, fun b o h => hb.frozen (p := ⟨b, o, none⟩) h⟩


end Go.Proofs.YtmgaeapckfdbpabDoor


/-
  DERIVED. THE WALKS of makeToken, readSign, readWordOrName, readNumber, read.
-/
namespace Go.Proofs.YtmgaeapckfdbpabDoor
open Go.RowKit
set_option linter.unusedVariables false
set_option linter.unusedSimpArgs false

def aggT (k a : Int) (s : ByteArray) (n : Int) : Value := .agg #[.int .i64 k, .int .i64 a, .string s, .int .i64 n]

/-- what a call of the readers answers -/
def gotV (g : Tk.Got) : Value := .tuple #[.agg #[.int .i64 g.kind, .int .i64 0, .string ⟨g.text.toArray⟩, .int .i64 g.n], .int .i64 g.code]

set_option maxHeartbeats 1000000 in
theorem makeToken_any (k : Int) (s : ByteArray) (w : World) (hlim : s.size ≤ 281474976710656) :
    Calls Tryd.prog 31 #[.int .i64 k, .string s] w fun e w' => e = .returned (.agg #[.int .i64 k, .int .i64 0, .string s, .int .i64 0]) ∧ Below w.heap.size w w' := by
  go_enter Tryd.func31, Tryd.ntmps31
  go_wp2_with fail
  refine (clone_any _ _ hlim).mono ?_
  rintro e w1 ⟨rfl, hb⟩
  obtain ⟨hc, hf⟩ := bcell hb
  have hz : w.heap.size < w1.heap.size := by have := hb.size; simp at this; omega
  go_wp2
  have hb0 : Below w.heap.size w w1 := ((Below.refl _ w).alloc (Nat.le_refl _) _).trans (hb.mono (by simp))
  exact bodyPost_ret (v := .agg #[.int .i64 k, .int .i64 0, .string s, .int .i64 0]) (by simp [results, Tryd.results31, go_sem, hc]) rfl ⟨rfl, (((hb0.setCell (by simp) _).setCell (by simp) _).setCell (by simp) _).setCell (by simp) _⟩


theorem mk_toList (s : ByteArray) : (⟨s.data.toList.toArray⟩ : ByteArray) = s := by cases s; simp

theorem mk_take (s : ByteArray) (k : Nat) : (⟨(s.data.toList.take k).toArray⟩ : ByteArray) = s.extract 0 k := by
  apply ByteArray.ext
  rw [ByteArray.data_extract]
  apply Array.toList_inj.1
  simp

theorem extract_list (s : ByteArray) (a b : Nat) : (s.extract a b).data.toList = (s.data.toList.drop a).take (b - a) := by
  rw [ByteArray.data_extract]
  simp

theorem signLen_le (l : List UInt8) : Tk.signLen l ≤ l.length := by
  unfold Tk.signLen
  split
  · simp
  · rename_i c l
    split
    · rename_i h
      cases l with
      | nil => simp at h
      | cons d l => simp
    · split <;> simp

set_option maxHeartbeats 1000000 in
theorem readSign_any (s : ByteArray) (w : World) (hlim : s.size ≤ 281474976710656) :
    Calls Tryd.prog 21 #[.string s] w fun e w' => e = .returned (gotV (Tk.readSign s.data.toList)) ∧ Below w.heap.size w w' := by
  by_cases h0 : Tk.signLen s.data.toList = 0
  · have h1 : ((Tk.signLen s.data.toList : Int) == 0) = true := by simp [h0]
    have HG : Hid (Tk.readSign s.data.toList = Tk.bad 1) := by show _ = _; simp [Tk.readSign, h0]
    clear h0
    go_enter Tryd.func21, Tryd.ntmps21
    go_wp2_with (go_at_call 30; refine (signLength_any _ _).mono ?_; rintro e w' ⟨rfl, rfl⟩)
    rw [HG.out]
    exact bodyPost_ret (v := gotV (Tk.bad 1)) (by simp [results, Tryd.results21, go_sem, gotV, Tk.bad]) rfl ⟨rfl, (Below.refl _ _).alloc (Nat.le_refl _) _⟩
  · have h1 : ((Tk.signLen s.data.toList : Int) == 0) = false := by simp [h0]
    have hle := signLen_le s.data.toList
    rw [← Lib.size_eq] at hle
    have HG : Hid (Tk.readSign s.data.toList = ⟨4, s.data.toList.take (Tk.signLen s.data.toList), 0, 0⟩) := by show _ = _; simp [Tk.readSign, h0]
    clear h0
    go_enter Tryd.func21, Tryd.ntmps21
    go_wp2_with (go_at_call 30; refine (signLength_any _ _).mono ?_; rintro e w' ⟨rfl, rfl⟩)
    refine (makeToken_any _ _ _ (by rw [ByteArray.size_extract]; omega)).mono ?_
    rintro e w1 ⟨rfl, hb⟩
    obtain ⟨hc, hf⟩ := bcell hb
    go_wp2
    rw [HG.out]
    have hb0 : Below w.heap.size w w1 := ((Below.refl _ w).alloc (Nat.le_refl _) _).trans (hb.mono (by simp))
    exact bodyPost_ret (v := gotV ⟨4, s.data.toList.take (Tk.signLen s.data.toList), 0, 0⟩) (by simp [results, Tryd.results21, go_sem, hc, gotV, mk_take]) rfl ⟨rfl, (((hb0.setCell (by simp) _).setCell (by simp) _).setCell (by simp) _).setCell (by simp) _⟩

set_option maxHeartbeats 1000000 in
theorem readWordOrName_any (s : ByteArray) (w : World) (hlim : s.size ≤ 281474976710656) :
    Calls Tryd.prog 24 #[.string s] w fun e w' => e = .returned (gotV (Tk.readName s.data.toList)) ∧ Below w.heap.size w w' := by
  have hsz : s.data.toList.length = s.size := by rw [Lib.size_eq]
  cases h1 : Tk.isWord s.data.toList
  · by_cases h2 : 12 < s.size
    · have HG : Hid (Tk.readName s.data.toList = Tk.bad 3) := by show _ = _; simp [Tk.readName, h1, hsz, h2]
      clear hsz
      go_enter Tryd.func24, Tryd.ntmps24
      go_wp2_with (go_at_call 32; refine (word_any _ _).mono ?_; rintro e w' ⟨rfl, rfl⟩)
      rw [HG.out]
      exact bodyPost_ret (v := gotV (Tk.bad 3)) (by simp [results, Tryd.results24, go_sem, gotV, Tk.bad]) rfl ⟨rfl, (Below.refl _ _).alloc (Nat.le_refl _) _⟩
    · have HG : Hid (Tk.readName s.data.toList = ⟨2, s.data.toList, 0, 0⟩) := by show _ = _; simp [Tk.readName, h1, hsz, h2]
      clear hsz
      go_enter Tryd.func24, Tryd.ntmps24
      go_wp2_with (go_at_call 32; refine (word_any _ _).mono ?_; rintro e w' ⟨rfl, rfl⟩)
      refine (makeToken_any _ _ _ hlim).mono ?_
      rintro e w1 ⟨rfl, hb⟩
      obtain ⟨hc, hf⟩ := bcell hb
      go_wp2
      rw [HG.out]
      have hb0 : Below w.heap.size w w1 := ((Below.refl _ w).alloc (Nat.le_refl _) _).trans (hb.mono (by simp))
      exact bodyPost_ret (v := gotV ⟨2, s.data.toList, 0, 0⟩) (by simp [results, Tryd.results24, go_sem, hc, gotV, mk_toList]) rfl ⟨rfl, (((hb0.setCell (by simp) _).setCell (by simp) _).setCell (by simp) _).setCell (by simp) _⟩
  · have HG : Hid (Tk.readName s.data.toList = ⟨1, s.data.toList, 0, 0⟩) := by show _ = _; simp [Tk.readName, h1]
    clear hsz
    go_enter Tryd.func24, Tryd.ntmps24
    go_wp2_with (go_at_call 32; refine (word_any _ _).mono ?_; rintro e w' ⟨rfl, rfl⟩)
    refine (makeToken_any _ _ _ hlim).mono ?_
    rintro e w1 ⟨rfl, hb⟩
    obtain ⟨hc, hf⟩ := bcell hb
    go_wp2
    rw [HG.out]
    have hb0 : Below w.heap.size w w1 := ((Below.refl _ w).alloc (Nat.le_refl _) _).trans (hb.mono (by simp))
    exact bodyPost_ret (v := gotV ⟨1, s.data.toList, 0, 0⟩) (by simp [results, Tryd.results24, go_sem, hc, gotV, mk_toList]) rfl ⟨rfl, (((hb0.setCell (by simp) _).setCell (by simp) _).setCell (by simp) _).setCell (by simp) _⟩

theorem numVal_snoc (l : List UInt8) (c : UInt8) : Tk.numVal (l ++ [c]) = Tk.numVal l * 10 + ((c.toNat : Int) - 48) := by
  simp [Tk.numVal, List.foldl_append]

theorem take_snoc (s : ByteArray) (k : Nat) (h : k < s.size) : s.data.toList.take (k + 1) = s.data.toList.take k ++ [s[k]] := by
  rw [List.take_succ_eq_append_getElem (by simpa using h)]; rfl

theorem numVal_bd (s : ByteArray) : ∀ k : Nat, k ≤ s.size → (∀ j (hj : j < s.data.toList.length), j < k → Tk.isD ((s.data.toList[j]).toNat : Int) = true) → 0 ≤ Tk.numVal (s.data.toList.take k) ∧ Tk.numVal (s.data.toList.take k) < (10 : Int) ^ k
  | 0, _, _ => by simp [Tk.numVal]
  | k + 1, hk, h => by
    have ih := numVal_bd s k (by omega) (fun j hj hjk => h j hj (by omega))
    have hd := h k (by rw [← Lib.size_eq]; omega) (by omega)
    rw [take_snoc s k (by omega), numVal_snoc]
    have e : s.data.toList[k]'(by rw [← Lib.size_eq]; omega) = s[k]'(by omega) := rfl
    rw [e] at hd
    simp [Tk.isD] at hd
    have h10 : (10 : Int) ^ (k + 1) = 10 ^ k * 10 := Int.pow_succ 10 k
    omega

theorem pow_bd : ∀ k : Nat, k ≤ 18 → (10 : Int) ^ k ≤ 1000000000000000000 := by
  intro k hk
  have : (10 : Int) ^ k ≤ 10 ^ 18 := by
    have h := Nat.pow_le_pow_right (n := 10) (by omega) hk
    exact_mod_cast h
  simpa using this


end Go.Proofs.YtmgaeapckfdbpabDoor
