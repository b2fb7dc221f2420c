/-
  DERIVED. PLAIN MATHEMATICS for the document's own Scan, which goes byte by byte.
-/
import Derived.Test.YtmempjdlijmfmaaJoinMath
namespace Go.Proofs.Ytmempjdlijmfmaa.Tk
set_option linter.unusedVariables false
set_option linter.unusedSimpArgs false

theorem scanB_blank (f : Nat) (c : UInt8) (l : List UInt8) (p : Nat) (h : isB (c.toNat : Int) = true) : scanB f (c :: l) p = scanB f l (p + 1) := by
  have h35 : ¬ (c.toNat : Int) = 35 := by simp [isB] at h; omega
  have hs : stops false (c.toNat : Int) = false := by simp [stops, h]
  have hf : flag false (c.toNat : Int) = false := by unfold flag; split <;> simp [h35]
  unfold scanB
  rw [blankLen_go _ _ _ hs, hf]
  have e1 : p + (1 + blankLen false l) = p + 1 + blankLen false l := by omega
  have e2 : 1 + blankLen false l = blankLen false l + 1 := by omega
  rw [e1, e2, List.drop_succ_cons]

/-- the scan within a remark -/
def scanM (f : Nat) (l : List UInt8) (p : Nat) : List Tok × Int × Int := scanR f (l.drop (blankLen true l)) (p + blankLen true l)

theorem scanM_step (f : Nat) (c : UInt8) (l : List UInt8) (p : Nat) (h : ¬ (c.toNat : Int) = 10) : scanM f (c :: l) p = scanM f l (p + 1) := by
  have hf : flag true (c.toNat : Int) = true := by unfold flag; rw [if_neg h]; split <;> rfl
  have hs : stops true (c.toNat : Int) = false := by simp [stops, hf]
  unfold scanM
  rw [blankLen_go _ _ _ hs, hf]
  have e1 : p + (1 + blankLen true l) = p + 1 + blankLen true l := by omega
  have e2 : 1 + blankLen true l = blankLen true l + 1 := by omega
  rw [e1, e2, List.drop_succ_cons]

theorem scanM_hash (f : Nat) (c : UInt8) (l : List UInt8) (p : Nat) (h : (c.toNat : Int) = 35) : scanB f (c :: l) p = scanM f (c :: l) p := by
  have h' : c.toNat = 35 := by omega
  unfold scanB scanM
  have e : blankLen false (c :: l) = blankLen true (c :: l) := by simp [blankLen, h']
  rw [e]

theorem scanM_nl (f : Nat) (c : UInt8) (l : List UInt8) (p : Nat) (h : (c.toNat : Int) = 10) : scanM f (c :: l) p = scanB f (c :: l) p := by
  have h' : c.toNat = 10 := by omega
  unfold scanB scanM
  have e : blankLen false (c :: l) = blankLen true (c :: l) := by simp [blankLen, h']
  rw [e]

theorem scanM_nil (f : Nat) (p : Nat) : scanM f [] p = scanB f [] p := rfl

theorem blank_none (c : UInt8) (l : List UInt8) (h1 : isB (c.toNat : Int) = false) (h2 : ¬ (c.toNat : Int) = 35) : blankLen false (c :: l) = 0 := by
  apply blankLen_stop
  have h10 : ¬ (c.toNat : Int) = 10 := by intro e; rw [e] at h1; simp [isB] at h1
  simp [stops, flag, h10, h2, h1]

theorem scanB_tok (f : Nat) (l : List UInt8) (p : Nat) (hne : l ≠ []) (h0 : blankLen false l = 0) (hcode : (read l).code = 0) (acc : List Tok) :
    comb acc (scanB (f + 1) l p) = comb (acc ++ [⟨(read l).kind, p, (read l).text, (read l).n⟩]) (scanB f (l.drop (read l).text.length) (p + (read l).text.length)) := by
  have hl : 0 < l.length := List.length_pos_iff.2 hne
  have := scanB_step f l p (by omega) (by rw [h0]; exact hcode) acc
  rw [h0] at this
  simpa using this

theorem scanB_bad (f : Nat) (l : List UInt8) (p : Nat) (hne : l ≠ []) (h0 : blankLen false l = 0) (hcode : (read l).code ≠ 0) (acc : List Tok) :
    comb acc (scanB (f + 1) l p) = ([], (read l).code, (p : Int)) := by
  unfold scanB
  rw [h0]
  exact scanR_fault f l p hne hcode acc

theorem scanB_end (f : Nat) (p : Nat) (acc : List Tok) : comb acc (scanB f [] p) = (acc, 0, 0) := by
  unfold scanB
  exact scanR_end f _ acc

theorem run_pos (c : UInt8) (l : List UInt8) (h : isR (c.toNat : Int) = true) : 0 < runLen (c :: l) := by
  unfold runLen
  rw [List.takeWhile_cons, if_pos h]
  simp

theorem run_zero (c : UInt8) (l : List UInt8) (h : isR (c.toNat : Int) = false) : runLen (c :: l) = 0 := by
  unfold runLen
  rw [List.takeWhile_cons, if_neg (by rw [h]; simp)]
  rfl

theorem read_name (c : UInt8) (l : List UInt8) (h : isL (c.toNat : Int) = true) : read (c :: l) = readName ((c :: l).take (runLen (c :: l))) := by
  have h1 := run_pos c l (by simp [isR, h])
  have h2 : isD (c.toNat : Int) = false := by simp [isL] at h; simp [isD]; omega
  unfold read
  rw [if_neg (by omega), List.headD_cons, if_neg (by rw [h2]; simp)]

theorem read_num (c : UInt8) (l : List UInt8) (h : isD (c.toNat : Int) = true) : read (c :: l) = readNum ((c :: l).take (runLen (c :: l))) := by
  have h1 := run_pos c l (by simp [isR, h])
  unfold read
  rw [if_neg (by omega), List.headD_cons, if_pos h]

theorem read_sign (c : UInt8) (l : List UInt8) (h : isL (c.toNat : Int) = false) (h' : isD (c.toNat : Int) = false) : read (c :: l) = readSign (c :: l) := by
  have h1 := run_zero c l (by simp [isR, h, h'])
  unfold read
  rw [if_pos h1]

theorem numVal_acc : ∀ (l : List UInt8) (a : Int), 0 ≤ a → l.all (fun c => isD (c.toNat : Int)) = true → 0 ≤ l.foldl (fun a c => a * 10 + ((c.toNat : Int) - 48)) a
  | [], a, h, _ => h
  | c :: l, a, h, ha => by
    simp only [List.all_cons, Bool.and_eq_true] at ha
    have h1 := ha.1
    simp [isD] at h1
    exact numVal_acc l _ (show 0 ≤ a * 10 + ((c.toNat : Int) - 48) by omega) ha.2

theorem numVal_nonneg (l : List UInt8) (h : l.all (fun c => isD (c.toNat : Int)) = true) : 0 ≤ numVal l := numVal_acc l 0 (Int.le_refl _) h

theorem signLen_cons (c : UInt8) (l : List UInt8) : signLen (c :: l) = if (c == 61 && l.head? == some 61) || (c == 45 && l.head? == some 62) then 2 else if isS c then 1 else 0 := rfl

theorem signLen_two (c : UInt8) (l : List UInt8) : signLen (c :: l) = 2 ↔ (c = 61 ∧ l.head? = some 61) ∨ (c = 45 ∧ l.head? = some 62) := by
  rw [signLen_cons]
  constructor
  · intro h
    split at h
    · rename_i h1; simpa using h1
    · split at h <;> simp at h
  · intro h
    rw [if_pos (by simpa using h)]

theorem signLen_one (c : UInt8) (l : List UInt8) (h : signLen (c :: l) ≠ 2) : signLen (c :: l) = if isS c then 1 else 0 := by
  rw [signLen_cons] at h ⊢
  split
  · rename_i h1; rw [if_pos h1] at h; exact absurd rfl h
  · rfl

end Go.Proofs.Ytmempjdlijmfmaa.Tk
