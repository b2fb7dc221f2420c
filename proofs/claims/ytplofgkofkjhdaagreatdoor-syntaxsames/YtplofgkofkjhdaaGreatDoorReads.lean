/-
  DERIVED. THE WALK of token.read.
-/
import Derived.Test.YtplofgkofkjhdaaGreatDoorNum
namespace Go.Proofs.YtplofgkofkjhdaaGreatDoor
open Go.RowKit Go.IntWalk
set_option linter.unusedVariables false
set_option linter.unusedSimpArgs false

theorem headD_eq : ∀ (l : List UInt8) (h : 0 < l.length), l.headD 0 = l[0]
  | [], h => by simp at h
  | _ :: _, _ => rfl

set_option maxHeartbeats 1000000 in
theorem read_any (s : ByteArray) (w : World) (hlim : s.size ≤ 281474976710656) :
    Calls Tryz.prog 34 #[.string s] w fun e w' => e = .returned (gotV (Tk.read s.data.toList)) ∧ Below w.heap.size w w' := by
  have hml : s.size ≤ maxLen := by unfold maxLen; omega
  have hle := Tk.runLen_le s.data.toList
  rw [← Lib.size_eq] at hle
  by_cases h0 : Tk.runLen s.data.toList = 0
  · have h1 : ((Tk.runLen s.data.toList : Int) == 0) = true := by simp [h0]
    have HG : Hid (Tk.read s.data.toList = Tk.readSign s.data.toList) := by show _ = _; simp [Tk.read, h0]
    clear h0
    obtain ⟨g, hg⟩ : ∃ g, g = Tk.readSign s.data.toList := ⟨_, rfl⟩
    rw [HG.out, ← hg]
    unfold gotV
    have HGG := hide hg
    clear hg HG
    go_enter Tryz.func34, Tryz.ntmps34
    go_wp2_with (go_at_call 57; refine (runLength_any _ _ hml).mono ?_; rintro e w' ⟨rfl, rfl⟩)
    refine (readSign_any _ _ hlim).mono ?_
    rintro e w1 ⟨he, hb⟩
    rw [← unhide HGG] at he
    unfold gotV at he
    subst he
    obtain ⟨hc, hf⟩ := bcell hb
    go_wp2
    have hb0 : Below w.heap.size w w1 := ((Below.refl _ w).alloc (Nat.le_refl _) _).trans (hb.mono (by simp))
    exact bodyPost_ret (v := .tuple #[.agg #[.int .i64 g.kind, .int .i64 0, .string ⟨g.text.toArray⟩, .int .i64 g.n], .int .i64 g.code]) (by simp [results, Tryz.results34, go_sem, hc]) rfl ⟨rfl, (((hb0.setCell (by simp) _).setCell (by simp) _).setCell (by simp) _).setCell (by simp) _⟩
  · have h1 : ((Tk.runLen s.data.toList : Int) == 0) = false := by simp [h0]
    have hp : 0 < s.size := by omega
    have hhd : s.data.toList.headD 0 = s[0] := by
      exact headD_eq s.data.toList (by rw [← Lib.size_eq]; omega)
    cases hD : Tk.isD ((s[0]).toNat : Int)
    · have HG : Hid (Tk.read s.data.toList = Tk.readName (s.extract 0 (Tk.runLen s.data.toList)).data.toList) := by show _ = _; rw [extract_list]; simp only [Tk.read, h0, hhd, hD]; simp
      clear h0 hhd
      obtain ⟨g, hg⟩ : ∃ g, g = Tk.readName (s.extract 0 (Tk.runLen s.data.toList)).data.toList := ⟨_, rfl⟩
      rw [HG.out, ← hg]
      unfold gotV
      have HGG := hide hg
      clear hg HG
      go_enter Tryz.func34, Tryz.ntmps34
      go_wp2_with (first
        | (go_at_call 57; refine (runLength_any _ _ hml).mono ?_; rintro e w' ⟨rfl, rfl⟩)
        | (go_at_call 59; refine (isDigit_any _ _).mono ?_; rintro e w' ⟨rfl, rfl⟩))
      refine (readWordOrName_any _ _ (by rw [ByteArray.size_extract]; omega)).mono ?_
      rintro e w1 ⟨he, hb⟩
      rw [← unhide HGG] at he
      unfold gotV at he
      subst he
      obtain ⟨hc, hf⟩ := bcell hb
      go_wp2
      have hb0 : Below w.heap.size w w1 := ((Below.refl _ w).alloc (Nat.le_refl _) _).trans (hb.mono (by simp))
      exact bodyPost_ret (v := .tuple #[.agg #[.int .i64 g.kind, .int .i64 0, .string ⟨g.text.toArray⟩, .int .i64 g.n], .int .i64 g.code]) (by simp [results, Tryz.results34, go_sem, hc]) rfl ⟨rfl, (((hb0.setCell (by simp) _).setCell (by simp) _).setCell (by simp) _).setCell (by simp) _⟩
    · have HG : Hid (Tk.read s.data.toList = Tk.readNum (s.extract 0 (Tk.runLen s.data.toList)).data.toList) := by show _ = _; rw [extract_list]; simp only [Tk.read, h0, hhd, hD]; simp
      clear h0 hhd
      obtain ⟨g, hg⟩ : ∃ g, g = Tk.readNum (s.extract 0 (Tk.runLen s.data.toList)).data.toList := ⟨_, rfl⟩
      rw [HG.out, ← hg]
      unfold gotV
      have HGG := hide hg
      clear hg HG
      go_enter Tryz.func34, Tryz.ntmps34
      go_wp2_with (first
        | (go_at_call 57; refine (runLength_any _ _ hml).mono ?_; rintro e w' ⟨rfl, rfl⟩)
        | (go_at_call 59; refine (isDigit_any _ _).mono ?_; rintro e w' ⟨rfl, rfl⟩))
      refine (readNumber_any _ _ (by rw [ByteArray.size_extract]; omega)).mono ?_
      rintro e w1 ⟨he, hb⟩
      rw [← unhide HGG] at he
      unfold gotV at he
      subst he
      obtain ⟨hc, hf⟩ := bcell hb
      go_wp2
      have hb0 : Below w.heap.size w w1 := ((Below.refl _ w).alloc (Nat.le_refl _) _).trans (hb.mono (by simp))
      exact bodyPost_ret (v := .tuple #[.agg #[.int .i64 g.kind, .int .i64 0, .string ⟨g.text.toArray⟩, .int .i64 g.n], .int .i64 g.code]) (by simp [results, Tryz.results34, go_sem, hc]) rfl ⟨rfl, (((hb0.setCell (by simp) _).setCell (by simp) _).setCell (by simp) _).setCell (by simp) _⟩

end Go.Proofs.YtplofgkofkjhdaaGreatDoor
