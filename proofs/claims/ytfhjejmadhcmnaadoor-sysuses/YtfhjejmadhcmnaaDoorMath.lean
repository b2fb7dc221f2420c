
/-
  DERIVED. PLAIN MATHEMATICS over the functions of Spec: what a token's text is; how a scan goes on.
-/
import Derived.Test.YtfhjejmadhcmnaaDoorSpec
namespace Go.Proofs.YtfhjejmadhcmnaaDoor.Tk
set_option linter.unusedVariables false
set_option linter.unusedSimpArgs false

theorem signLen_le (l : List UInt8) : signLen l ≤ l.length := by
  unfold signLen
  split
  · simp
  · rename_i c l
    split
    · rename_i h
      cases l with
      | nil => simp at h
      | cons d l => simp
    · split <;> simp

/-- the text of a token is what stands there, one byte at least -/
theorem read_ok (l : List UInt8) (hl : l ≠ []) (h : (read l).code = 0) : (read l).text = l.take (read l).text.length ∧ 0 < (read l).text.length ∧ (read l).text.length ≤ l.length := by
  have key : ∀ k, 0 < k → k ≤ l.length → (read l).text = l.take k → (read l).text = l.take (read l).text.length ∧ 0 < (read l).text.length ∧ (read l).text.length ≤ l.length := by
    intro k h0 h1 e
    have el : (read l).text.length = k := by rw [e, List.length_take]; omega
    rw [el]
    exact ⟨e, h0, h1⟩
  have hr := runLen_le l
  have hs := signLen_le l
  by_cases h0 : runLen l = 0
  · have e : read l = readSign l := by simp [read, h0]
    rw [e] at h
    by_cases h1 : signLen l = 0
    · simp [readSign, h1, bad] at h
    · exact key (signLen l) (by omega) hs (by rw [e]; simp [readSign, h1])
  · apply key (runLen l) (by omega) hr
    by_cases h1 : isD ((l.headD 0).toNat : Int) = true
    · have e : read l = readNum (l.take (runLen l)) := by unfold read; rw [if_neg h0, if_pos h1]
      rw [e] at h ⊢
      unfold readNum at h ⊢
      split at h
      · simp [bad] at h
      · rename_i h2
        rw [if_neg h2]
        split at h
        · rename_i h3
          rw [if_pos h3]
        · simp [bad] at h
    · have e : read l = readName (l.take (runLen l)) := by unfold read; rw [if_neg h0, if_neg h1]
      rw [e] at h ⊢
      unfold readName at h ⊢
      split at h
      · rename_i h2
        rw [if_pos h2]
      · rename_i h2
        rw [if_neg h2]
        split at h
        · simp [bad] at h
        · rename_i h3
          rw [if_neg h3]

/-- tokens that are there already, and what the rest says -/
def comb (acc : List Tok) (q : List Tok × Int × Int) : List Tok × Int × Int := if q.2.1 ≠ 0 then ([], q.2) else (acc ++ q.1, 0, 0)

theorem scanR_fault (f : Nat) (l : List UInt8) (p : Nat) (hl : l ≠ []) (h : (read l).code ≠ 0) (acc : List Tok) :
    comb acc (scanR (f + 1) l p) = ([], (read l).code, (p : Int)) := by
  cases l with
  | nil => exact absurd rfl hl
  | cons c l => simp only [scanR]; rw [if_pos h]; simp [comb, h]

/-- where the rest begins, behind a token -/
def nextAt (l : List UInt8) : Nat := (read l).text.length + blankLen false (l.drop (read l).text.length)

theorem scanR_step (f : Nat) (l : List UInt8) (p : Nat) (hl : l ≠ []) (h : (read l).code = 0) (acc : List Tok) :
    comb acc (scanR (f + 1) l p) = comb (acc ++ [⟨(read l).kind, p, (read l).text, (read l).n⟩]) (scanR f (l.drop (nextAt l)) (p + nextAt l)) := by
  cases l with
  | nil => exact absurd rfl hl
  | cons c l =>
    simp only [scanR]
    rw [if_neg (by simpa using h)]
    have e1 : List.drop (blankLen false (List.drop (read (c :: l)).text.length (c :: l))) (List.drop (read (c :: l)).text.length (c :: l)) = List.drop (nextAt (c :: l)) (c :: l) := by
      rw [List.drop_drop]; rfl
    have e2 : p + (read (c :: l)).text.length + blankLen false (List.drop (read (c :: l)).text.length (c :: l)) = p + nextAt (c :: l) := by unfold nextAt; omega
    rw [e1, e2]
    generalize scanR f (List.drop (nextAt (c :: l)) (c :: l)) (p + nextAt (c :: l)) = q
    unfold comb
    by_cases hq : q.2.1 = 0
    · simp [hq]
    · simp [hq]

theorem scanR_end (f : Nat) (p : Nat) (acc : List Tok) : comb acc (scanR f [] p) = (acc, 0, 0) := by
  cases f <;> simp [scanR, comb]

theorem nextAt_le (l : List UInt8) (hl : l ≠ []) (h : (read l).code = 0) : 0 < nextAt l ∧ nextAt l ≤ l.length := by
  have h1 := read_ok l hl h
  have h2 := blankLen_le false (l.drop (read l).text.length)
  rw [List.length_drop] at h2
  unfold nextAt
  omega

theorem scan_start (l : List UInt8) (hl : l.length ≤ 12000) : scan l = comb [] (scanR l.length (l.drop (blankLen false l)) (blankLen false l)) := by
  unfold scan
  rw [if_neg (by omega)]
  generalize hq : scanR l.length (l.drop (blankLen false l)) (blankLen false l) = q
  have key : ∀ (f : Nat) (l : List UInt8) (p : Nat), (scanR f l p).2.1 ≠ 0 → (scanR f l p).1 = [] := by
    intro f l p
    cases f with
    | zero => simp [scanR]
    | succ f =>
      cases l with
      | nil => simp [scanR]
      | cons c l =>
        simp only [scanR]
        split
        · intro _; rfl
        · split
          · intro _; rfl
          · simp
  have key2 : ∀ (f : Nat) (l : List UInt8) (p : Nat), (scanR f l p).2.1 = 0 → (scanR f l p).2.2 = 0 := by
    intro f l p
    cases f with
    | zero => simp [scanR]
    | succ f =>
      cases l with
      | nil => simp [scanR]
      | cons c l =>
        simp only [scanR]
        split
        · rename_i h; intro h'; exact absurd h' h
        · split
          · rename_i h; intro h'; exact absurd h' h
          · simp
  have k1 := key l.length (l.drop (blankLen false l)) (blankLen false l)
  have k2 := key2 l.length (l.drop (blankLen false l)) (blankLen false l)
  rw [hq] at k1 k2
  obtain ⟨a, b, c⟩ := q
  unfold comb
  by_cases hb : b = 0
  · subst hb; simp at k2; simp [k2]
  · simp at k1; simp [hb, k1 hb]

/-- tokens one behind the other, from a place on; what is between them is blanks -/
def Chain (l : List UInt8) : Nat → List Tok → Prop
  | e, [] => e ≤ l.length ∧ e + blankLen false (l.drop e) = l.length
  | e, t :: ts => e ≤ l.length ∧ t.place = e + blankLen false (l.drop e) ∧ 0 < t.text.length ∧ t.place + t.text.length ≤ l.length ∧ t.text = (l.drop t.place).take t.text.length ∧ Chain l (t.place + t.text.length) ts

theorem scanR_chain (l : List UInt8) : ∀ (f e : Nat), e ≤ l.length → l.length - (e + blankLen false (l.drop e)) ≤ f →
    (scanR f (l.drop (e + blankLen false (l.drop e))) (e + blankLen false (l.drop e))).2.1 = 0 → Chain l e (scanR f (l.drop (e + blankLen false (l.drop e))) (e + blankLen false (l.drop e))).1 := by
  intro f
  induction f with
  | zero =>
    intro e he hf _
    have hb := blankLen_le false (l.drop e)
    rw [List.length_drop] at hb
    simp only [scanR]
    exact ⟨he, by omega⟩
  | succ f ih =>
    intro e he hf hc
    have hb := blankLen_le false (l.drop e)
    rw [List.length_drop] at hb
    generalize hp : e + blankLen false (l.drop e) = p at *
    cases hd : l.drop p with
    | nil =>
      have := congrArg List.length hd
      rw [List.length_drop] at this
      simp at this
      simp only [scanR]
      exact ⟨he, by omega⟩
    | cons c r =>
      have hne : l.drop p ≠ [] := by rw [hd]; simp
      have hlt : p < l.length := by
        have := congrArg List.length hd
        rw [List.length_drop] at this
        simp at this
        omega
      have hfl := scanR_fault f (l.drop p) p hne
      have hst := scanR_step f (l.drop p) p hne
      have hno : ∀ q : List Tok × Int × Int, q.2.1 = 0 → comb [] q = (q.1, 0, 0) := fun q h => by simp [comb, h]
      rw [← hd]
      by_cases hcode : (read (l.drop p)).code = 0
      · have hs := hst hcode []
        rw [hno _ hc, List.nil_append, List.drop_drop] at hs
        have hnx : nextAt (l.drop p) = (read (l.drop p)).text.length + blankLen false (l.drop (p + (read (l.drop p)).text.length)) := by unfold nextAt; rw [List.drop_drop]
        have hok := read_ok (l.drop p) hne hcode
        rw [List.length_drop] at hok
        have ihh := ih (p + (read (l.drop p)).text.length) (by omega)
        have e1 : p + nextAt (l.drop p) = p + (read (l.drop p)).text.length + blankLen false (l.drop (p + (read (l.drop p)).text.length)) := by omega
        rw [← e1] at ihh
        have hz : (scanR f (l.drop (p + nextAt (l.drop p))) (p + nextAt (l.drop p))).2.1 = 0 := by
          have h2 := congrArg (fun x => x.2.1) hs
          unfold comb at h2
          by_cases h3 : (scanR f (l.drop (p + nextAt (l.drop p))) (p + nextAt (l.drop p))).2.1 = 0
          · exact h3
          · rw [if_pos h3] at h2; exact h2.symm
        have hch := ihh (by omega) hz
        have h1 := congrArg (fun x => x.1) hs
        simp only [comb, hz] at h1
        simp at h1
        rw [h1]
        exact ⟨he, hp.symm, hok.2.1, by simp; omega, hok.1, hch⟩
      · exfalso
        have hs := hfl hcode []
        have h2 := congrArg (fun x => x.2.1) hs
        rw [hno _ hc] at h2
        exact hcode h2.symm

theorem scanR_faultAt : ∀ (f : Nat) (l : List UInt8) (p : Nat), (scanR f l p).2.1 ≠ 0 → (scanR f l p).1 = [] ∧ (p : Int) ≤ (scanR f l p).2.2 ∧ (scanR f l p).2.2 ≤ (p + l.length : Nat) := by
  intro f
  induction f with
  | zero => intro l p h; simp [scanR] at h
  | succ f ih =>
    intro l p h
    cases l with
    | nil => simp [scanR] at h
    | cons c l =>
      have hne : c :: l ≠ [] := by simp
      by_cases hcode : (read (c :: l)).code = 0
      · have hok := read_ok (c :: l) hne hcode
        simp only [scanR] at h ⊢
        rw [if_neg (by simpa using hcode)] at h ⊢
        have hb := blankLen_le false (List.drop (read (c :: l)).text.length (c :: l))
        have := ih (List.drop (blankLen false (List.drop (read (c :: l)).text.length (c :: l))) (List.drop (read (c :: l)).text.length (c :: l))) (p + (read (c :: l)).text.length + blankLen false (List.drop (read (c :: l)).text.length (c :: l)))
        generalize scanR f (List.drop (blankLen false (List.drop (read (c :: l)).text.length (c :: l))) (List.drop (read (c :: l)).text.length (c :: l))) (p + (read (c :: l)).text.length + blankLen false (List.drop (read (c :: l)).text.length (c :: l))) = q at *
        by_cases hq : q.2.1 = 0
        · rw [if_neg (by simpa using hq)] at h; simp at h
        · rw [if_pos hq] at h ⊢
          have := this hq
          rw [List.length_drop, List.length_drop] at this
          rw [List.length_drop] at hb
          have h3 := hok.2.2
          have h4 := this.2.1
          have h5 := this.2.2
          refine ⟨rfl, ?_, ?_⟩
          · show (p : Int) ≤ q.2.2
            omega
          · show q.2.2 ≤ ((p + (c :: l).length : Nat) : Int)
            omega
      · simp only [scanR]
        rw [if_pos hcode]
        exact ⟨rfl, by simp, by simp; omega⟩

theorem scan_fault (l : List UInt8) (h : (scan l).2.1 ≠ 0) : (scan l).1 = [] ∧ 0 ≤ (scan l).2.2 ∧ (scan l).2.2 ≤ (l.length : Int) := by
  unfold scan at h ⊢
  by_cases hb : 12000 < l.length
  · rw [if_pos hb]; exact ⟨rfl, by simp, by simp; omega⟩
  · rw [if_neg hb] at h ⊢
    have := scanR_faultAt _ _ _ h
    have hbl := blankLen_le false l
    rw [List.length_drop] at this
    refine ⟨this.1, by omega, by omega⟩

theorem scan_chain (l : List UInt8) (h : (scan l).2.1 = 0) : Chain l 0 (scan l).1 := by
  unfold scan at h ⊢
  by_cases hb : 12000 < l.length
  · rw [if_pos hb] at h; simp at h
  · rw [if_neg hb] at h ⊢
    have := scanR_chain l l.length 0 (Nat.zero_le _) (by omega)
    simpa using this (by simpa using h)

theorem chain_len (l : List UInt8) : ∀ (ts : List Tok) (e : Nat), Chain l e ts → ts.length ≤ l.length - e
  | [], _, _ => Nat.zero_le _
  | t :: ts, e, h => by
    obtain ⟨h1, h2, h3, h4, _, h6⟩ := h
    have := chain_len l ts _ h6
    simp only [List.length_cons]
    omega

end Go.Proofs.YtfhjejmadhcmnaaDoor.Tk
