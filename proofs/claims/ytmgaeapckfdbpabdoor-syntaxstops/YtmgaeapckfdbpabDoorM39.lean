/-
  DERIVED. PLAIN MATHEMATICS for the document's own Scan, which goes byte by byte.
-/
import Derived.Test.YtmgaeapckfdbpabDoorJoinMath
import Derived.Test.YtmgaeapckfdbpabDoorM37
import Derived.Deep.QuietTactic
import Derived.BigQuiet
import Derived.Deep.DeepCutAuto
namespace Go.Proofs.YtmgaeapckfdbpabDoor.Tk
set_option linter.unusedVariables false
set_option linter.unusedSimpArgs false

theorem scanB_blank (f : Nat) (c : UInt8) (l : List UInt8) (p : Nat) (h : isB (c.toNat : Int) = true) : scanB f (c :: l) p = scanB f l (p + 1) := by
  have h35 : ¬ (c.toNat : Int) = 35 := by simp [isB] at h; omega
  have hs : stops false (c.toNat : Int) = false := by simp [stops, h]
  have hf : flag false (c.toNat : Int) = false := by unfold flag; split <;> simp [h35]
  unfold scanB
  rw [blankLen_go _ _ _ hs, hf]
  have e1 : p + (1 + blankLen false l) = p + 1 + blankLen false l := by omega
  have e2 : 1 + blankLen false l = blankLen false l + 1 := by omega
  rw [e1, e2, List.drop_succ_cons]

/-- the scan within a remark -/
def scanM (f : Nat) (l : List UInt8) (p : Nat) : List Tok × Int × Int := scanR f (l.drop (blankLen true l)) (p + blankLen true l)

theorem scanM_step (f : Nat) (c : UInt8) (l : List UInt8) (p : Nat) (h : ¬ (c.toNat : Int) = 10) : scanM f (c :: l) p = scanM f l (p + 1) := by
  have hf : flag true (c.toNat : Int) = true := by unfold flag; rw [if_neg h]; split <;> rfl
  have hs : stops true (c.toNat : Int) = false := by simp [stops, hf]
  unfold scanM
  rw [blankLen_go _ _ _ hs, hf]
  have e1 : p + (1 + blankLen true l) = p + 1 + blankLen true l := by omega
  have e2 : 1 + blankLen true l = blankLen true l + 1 := by omega
  rw [e1, e2, List.drop_succ_cons]

theorem scanM_hash (f : Nat) (c : UInt8) (l : List UInt8) (p : Nat) (h : (c.toNat : Int) = 35) : scanB f (c :: l) p = scanM f (c :: l) p := by
  have h' : c.toNat = 35 := by omega
  unfold scanB scanM
  have e : blankLen false (c :: l) = blankLen true (c :: l) := by simp [blankLen, h']
  rw [e]

theorem scanM_nl (f : Nat) (c : UInt8) (l : List UInt8) (p : Nat) (h : (c.toNat : Int) = 10) : scanM f (c :: l) p = scanB f (c :: l) p := by
  have h' : c.toNat = 10 := by omega
  unfold scanB scanM
  have e : blankLen false (c :: l) = blankLen true (c :: l) := by simp [blankLen, h']
  rw [e]

theorem scanM_nil (f : Nat) (p : Nat) : scanM f [] p = scanB f [] p := rfl

theorem blank_none (c : UInt8) (l : List UInt8) (h1 : isB (c.toNat : Int) = false) (h2 : ¬ (c.toNat : Int) = 35) : blankLen false (c :: l) = 0 := by
  apply blankLen_stop
  have h10 : ¬ (c.toNat : Int) = 10 := by intro e; rw [e] at h1; simp [isB] at h1
  simp [stops, flag, h10, h2, h1]

theorem scanB_tok (f : Nat) (l : List UInt8) (p : Nat) (hne : l ≠ []) (h0 : blankLen false l = 0) (hcode : (read l).code = 0) (acc : List Tok) :
    comb acc (scanB (f + 1) l p) = comb (acc ++ [⟨(read l).kind, p, (read l).text, (read l).n⟩]) (scanB f (l.drop (read l).text.length) (p + (read l).text.length)) := by
  have hl : 0 < l.length := List.length_pos_iff.2 hne
  have := scanB_step f l p (by omega) (by rw [h0]; exact hcode) acc
  rw [h0] at this
  simpa using this

theorem scanB_bad (f : Nat) (l : List UInt8) (p : Nat) (hne : l ≠ []) (h0 : blankLen false l = 0) (hcode : (read l).code ≠ 0) (acc : List Tok) :
    comb acc (scanB (f + 1) l p) = ([], (read l).code, (p : Int)) := by
  unfold scanB
  rw [h0]
  exact scanR_fault f l p hne hcode acc

theorem scanB_end (f : Nat) (p : Nat) (acc : List Tok) : comb acc (scanB f [] p) = (acc, 0, 0) := by
  unfold scanB
  exact scanR_end f _ acc

theorem run_pos (c : UInt8) (l : List UInt8) (h : isR (c.toNat : Int) = true) : 0 < runLen (c :: l) := by
  unfold runLen
  rw [List.takeWhile_cons, if_pos h]
  simp

theorem run_zero (c : UInt8) (l : List UInt8) (h : isR (c.toNat : Int) = false) : runLen (c :: l) = 0 := by
  unfold runLen
  rw [List.takeWhile_cons, if_neg (by rw [h]; simp)]
  rfl

theorem read_name (c : UInt8) (l : List UInt8) (h : isL (c.toNat : Int) = true) : read (c :: l) = readName ((c :: l).take (runLen (c :: l))) := by
  have h1 := run_pos c l (by simp [isR, h])
  have h2 : isD (c.toNat : Int) = false := by simp [isL] at h; simp [isD]; omega
  unfold read
  rw [if_neg (by omega), List.headD_cons, if_neg (by rw [h2]; simp)]

theorem read_num (c : UInt8) (l : List UInt8) (h : isD (c.toNat : Int) = true) : read (c :: l) = readNum ((c :: l).take (runLen (c :: l))) := by
  have h1 := run_pos c l (by simp [isR, h])
  unfold read
  rw [if_neg (by omega), List.headD_cons, if_pos h]

theorem read_sign (c : UInt8) (l : List UInt8) (h : isL (c.toNat : Int) = false) (h' : isD (c.toNat : Int) = false) : read (c :: l) = readSign (c :: l) := by
  have h1 := run_zero c l (by simp [isR, h, h'])
  unfold read
  rw [if_pos h1]

theorem numVal_acc : ∀ (l : List UInt8) (a : Int), 0 ≤ a → l.all (fun c => isD (c.toNat : Int)) = true → 0 ≤ l.foldl (fun a c => a * 10 + ((c.toNat : Int) - 48)) a
  | [], a, h, _ => h
  | c :: l, a, h, ha => by
    simp only [List.all_cons, Bool.and_eq_true] at ha
    have h1 := ha.1
    simp [isD] at h1
    exact numVal_acc l _ (show 0 ≤ a * 10 + ((c.toNat : Int) - 48) by omega) ha.2

theorem numVal_nonneg (l : List UInt8) (h : l.all (fun c => isD (c.toNat : Int)) = true) : 0 ≤ numVal l := numVal_acc l 0 (Int.le_refl _) h

theorem signLen_cons (c : UInt8) (l : List UInt8) : signLen (c :: l) = if (c == 61 && l.head? == some 61) || (c == 45 && l.head? == some 62) then 2 else if isS c then 1 else 0 := rfl

theorem signLen_two (c : UInt8) (l : List UInt8) : signLen (c :: l) = 2 ↔ (c = 61 ∧ l.head? = some 61) ∨ (c = 45 ∧ l.head? = some 62) := by
  rw [signLen_cons]
  constructor
  · intro h
    split at h
    · rename_i h1; simpa using h1
    · split at h <;> simp at h
  · intro h
    rw [if_pos (by simpa using h)]

theorem signLen_one (c : UInt8) (l : List UInt8) (h : signLen (c :: l) ≠ 2) : signLen (c :: l) = if isS c then 1 else 0 := by
  rw [signLen_cons] at h ⊢
  split
  · rename_i h1; rw [if_pos h1] at h; exact absurd rfl h
  · rfl

end Go.Proofs.YtmgaeapckfdbpabDoor.Tk


/-
  DERIVED. SMALL LAWS for the walk of the document's own Scan.
-/
namespace Go.Proofs.YtmgaeapckfdbpabDoor
open Go.RowKit Go.IntWalk
set_option linter.unusedVariables false
set_option linter.unusedSimpArgs false

theorem str_take (s : ByteArray) (t : List UInt8) (p n : Nat) (h : t = (s.data.toList.drop p).take n) : str t = s.extract p (p + n) := by
  apply ByteArray.ext
  apply Array.toList_inj.1
  rw [extract_list, Nat.add_sub_cancel_left, ← h]
  simp [str]

/-- what an append of a token leaves -/
theorem next_tok {w w1 w2 : World} {acc : List Tk.Tok} {u v : Value} {K N : Int} {p : Nat} {t : List UInt8} {tx : ByteArray} (htx : str t = tx)
    (hown1 : w1.ownsRow (w.heap.size + 1) 35 4 u acc.length (toksCells acc)) (hbw : Below (w.heap.size + 1) (w.alloc (.cells #[.int .i64 0, .int .i64 0] 27)) w1) (hzw : w.heap.size < w1.heap.size) {o : Obj}
    (hown2 : w2.ownsRow (w.heap.size + 1) 35 4 v (acc.length + 1) (toksCells acc ++ [.int .i64 K, .int .i64 (p : Int), .string tx, .int .i64 N])) (hgrow : (w1.alloc o).grownBy w2 u.ownBlock) :
    w2.ownsRow (w.heap.size + 1) 35 4 v (acc ++ [(⟨K, p, t, N⟩ : Tk.Tok)]).length (toksCells (acc ++ [(⟨K, p, t, N⟩ : Tk.Tok)])) ∧ Below (w.heap.size + 1) (w.alloc (.cells #[.int .i64 0, .int .i64 0] 27)) w2 := by
  constructor
  · have e1 : (acc ++ [(⟨K, p, t, N⟩ : Tk.Tok)]).length = acc.length + 1 := by simp
    have e2 : toksCells (acc ++ [(⟨K, p, t, N⟩ : Tk.Tok)]) = toksCells acc ++ [Value.int .i64 K, .int .i64 (p : Int), .string tx, .int .i64 N] := by simp [toksCells, tokCells, htx]
    rw [e1, e2]
    exact hown2
  · exact (hbw.alloc hzw _).grown hgrow (by simp; omega) (fun k hk => (hown1.lt k hk).1)

theorem new4 (w : World) (a b c d : Value) (j : Nat) (u : Value) (hj : [a, b, c, d][j]? = some u) : (w.alloc (.cells #[a, b, c, d] 35)).cell? ((⟨w.heap.size, 0, none⟩ : Addr).add j) = some u := by
  match j, hj with
  | 0, hj => simp at hj; subst hj; simp [Addr.add]
  | 1, hj => simp at hj; subst hj; simp [Addr.add]
  | 2, hj => simp at hj; subst hj; simp [Addr.add]
  | 3, hj => simp at hj; subst hj; simp [Addr.add]

theorem readNum_neg (t : List UInt8) (h : numR t < 0) : Tk.readNum t = Tk.bad 2 := by
  unfold numR at h
  unfold Tk.readNum
  split
  · rfl
  · rename_i h1
    rw [if_neg h1] at h
    split
    · rename_i h2
      rw [if_pos h2] at h
      have := Tk.numVal_nonneg t h2
      omega
    · rfl

theorem readNum_pos (t : List UInt8) (h : ¬ numR t < 0) : Tk.readNum t = ⟨3, t, numR t, 0⟩ := by
  unfold numR at h ⊢
  unfold Tk.readNum
  split
  · rename_i h1
    rw [if_pos h1] at h
    simp at h
  · rename_i h1
    rw [if_neg h1] at h
    split
    · rfl
    · rename_i h2
      rw [if_neg h2] at h
      simp at h

theorem ext2 (s : ByteArray) (p : Nat) (hp : p < s.size) (hp1 : p + 1 < s.size) : (s.extract p (p + 2)).toList = [s[p], s[p + 1]] := by
  rw [Lib.toList_data, extract_list, Nat.add_sub_cancel_left]
  have e1 : s.data.toList.drop p = s[p] :: s.data.toList.drop (p + 1) := List.drop_eq_getElem_cons (by simpa using hp)
  have e2 : s.data.toList.drop (p + 1) = s[p + 1] :: s.data.toList.drop (p + 1 + 1) := List.drop_eq_getElem_cons (by simpa using hp1)
  rw [e1, e2]
  rfl

theorem head_next (s : ByteArray) (p : Nat) (hp1 : p + 1 < s.size) : (s.data.toList.drop (p + 1)).head? = some s[p + 1] := by
  have e2 : s.data.toList.drop (p + 1) = s[p + 1] :: s.data.toList.drop (p + 1 + 1) := List.drop_eq_getElem_cons (by simpa using hp1)
  rw [e2]
  rfl

theorem two_yes (s : ByteArray) (p : Nat) (hp : p < s.size) (h : Tk.signLen (s[p] :: s.data.toList.drop (p + 1)) = 2) :
    p + 1 < s.size ∧ (((s.extract p (p + 2)).toList == [61, 61]) = true ∨ (((s.extract p (p + 2)).toList == [61, 61]) = false ∧ ((s.extract p (p + 2)).toList == [45, 62]) = true)) := by
  rw [Tk.signLen_two] at h
  have hp1 : p + 1 < s.size := by
    by_cases h1 : p + 1 < s.size
    · exact h1
    · exfalso
      rw [List.drop_of_length_le (by rw [← Lib.size_eq]; omega)] at h
      simp at h
  refine ⟨hp1, ?_⟩
  rw [head_next s p hp1] at h
  rw [ext2 s p hp hp1]
  rcases h with ⟨h1, h2⟩ | ⟨h1, h2⟩
  · injection h2 with h2
    left
    rw [h1, h2]
    rfl
  · injection h2 with h2
    right
    rw [h1, h2]
    exact ⟨rfl, rfl⟩

theorem two_no (s : ByteArray) (p : Nat) (hp : p < s.size) (h : Tk.signLen (s[p] :: s.data.toList.drop (p + 1)) ≠ 2) (hp1 : p + 1 < s.size) :
    ((s.extract p (p + 2)).toList == [61, 61]) = false ∧ ((s.extract p (p + 2)).toList == [45, 62]) = false := by
  rw [ne_eq, Tk.signLen_two, head_next s p hp1] at h
  rw [ext2 s p hp hp1]
  constructor
  · rw [beq_eq_false_iff_ne]
    intro e
    injection e with e1 e2
    injection e2 with e2
    exact h (Or.inl ⟨e1, by rw [e2]⟩)
  · rw [beq_eq_false_iff_ne]
    intro e
    injection e with e1 e2
    injection e2 with e2
    exact h (Or.inr ⟨e1, by rw [e2]⟩)

theorem byte_int (c : UInt8) (k : Nat) (hk : k < 256) : ((c.toNat : Int) == (k : Int)) = (c == UInt8.ofNat k) := by
  rw [Bool.eq_iff_iff, beq_iff_eq, beq_iff_eq]
  constructor
  · intro h
    apply UInt8.toNat_inj.1
    rw [UInt8.toNat_ofNat']
    omega
  · intro h
    rw [h, UInt8.toNat_ofNat']
    omega

theorem signs_no (c : UInt8) (h : Tk.isS c = false) :
    ((c.toNat : Int) == 40) = false ∧ ((c.toNat : Int) == 41) = false ∧ ((c.toNat : Int) == 123) = false ∧ ((c.toNat : Int) == 125) = false ∧ ((c.toNat : Int) == 91) = false ∧ ((c.toNat : Int) == 93) = false ∧
    ((c.toNat : Int) == 60) = false ∧ ((c.toNat : Int) == 62) = false ∧ ((c.toNat : Int) == 44) = false ∧ ((c.toNat : Int) == 59) = false ∧ ((c.toNat : Int) == 58) = false ∧ ((c.toNat : Int) == 43) = false ∧
    ((c.toNat : Int) == 45) = false ∧ ((c.toNat : Int) == 42) = false ∧ ((c.toNat : Int) == 47) = false ∧ ((c.toNat : Int) == 37) = false ∧ ((c.toNat : Int) == 61) = false ∧ ((c.toNat : Int) == 94) = false := by
  have key : ∀ k : Nat, k < 256 → UInt8.ofNat k ∈ Tk.signs → ((c.toNat : Int) == (k : Int)) = false := by
    intro k hk hm
    rw [byte_int c k hk]
    unfold Tk.isS at h
    rw [List.any_eq_false] at h
    have := h _ hm
    rw [beq_eq_false_iff_ne]
    intro e
    rw [e] at this
    simp at this
  exact ⟨key 40 (by decide) (by decide), key 41 (by decide) (by decide), key 123 (by decide) (by decide), key 125 (by decide) (by decide), key 91 (by decide) (by decide), key 93 (by decide) (by decide),
    key 60 (by decide) (by decide), key 62 (by decide) (by decide), key 44 (by decide) (by decide), key 59 (by decide) (by decide), key 58 (by decide) (by decide), key 43 (by decide) (by decide),
    key 45 (by decide) (by decide), key 42 (by decide) (by decide), key 47 (by decide) (by decide), key 37 (by decide) (by decide), key 61 (by decide) (by decide), key 94 (by decide) (by decide)⟩

theorem signs_yes (c : UInt8) (h : Tk.isS c = true) :
    (c.toNat : Int) = 40 ∨ (c.toNat : Int) = 41 ∨ (c.toNat : Int) = 123 ∨ (c.toNat : Int) = 125 ∨ (c.toNat : Int) = 91 ∨ (c.toNat : Int) = 93 ∨ (c.toNat : Int) = 60 ∨ (c.toNat : Int) = 62 ∨ (c.toNat : Int) = 44 ∨
    (c.toNat : Int) = 59 ∨ (c.toNat : Int) = 58 ∨ (c.toNat : Int) = 43 ∨ (c.toNat : Int) = 45 ∨ (c.toNat : Int) = 42 ∨ (c.toNat : Int) = 47 ∨ (c.toNat : Int) = 37 ∨ (c.toNat : Int) = 61 ∨ (c.toNat : Int) = 94 := by
  unfold Tk.isS Tk.signs at h
  simp only [List.any_cons, List.any_nil, Bool.or_false, Bool.or_eq_true, beq_iff_eq] at h
  rcases h with h | h | h | h | h | h | h | h | h | h | h | h | h | h | h | h | h | h <;> subst h <;> simp

end Go.Proofs.YtmgaeapckfdbpabDoor
