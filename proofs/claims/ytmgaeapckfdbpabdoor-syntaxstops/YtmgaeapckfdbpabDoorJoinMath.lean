
/-
  DERIVED. PLAIN MATHEMATICS: two texts with a newline between have the tokens of both, those of the second one further behind.
-/
import Derived.Test.YtmgaeapckfdbpabDoorM02
namespace Go.Proofs.YtmgaeapckfdbpabDoor.Tk
set_option linter.unusedVariables false
set_option linter.unusedSimpArgs false

theorem scanR_fuel : ∀ (f g : Nat) (l : List UInt8) (p : Nat), l.length ≤ f → l.length ≤ g → scanR f l p = scanR g l p := by
  intro f
  induction f with
  | zero =>
    intro g l p hf hg
    have : l = [] := List.length_eq_zero_iff.1 (by omega)
    subst this
    cases g <;> simp [scanR]
  | succ f ih =>
    intro g l p hf hg
    cases l with
    | nil => cases g <;> simp [scanR]
    | cons c l =>
      cases g with
      | zero => simp at hg
      | succ g =>
        simp only [scanR]
        by_cases hcode : (read (c :: l)).code = 0
        · have hok := read_ok (c :: l) (by simp) hcode
          have hlen : (List.drop (blankLen false (List.drop (read (c :: l)).text.length (c :: l))) (List.drop (read (c :: l)).text.length (c :: l))).length ≤ l.length := by
            rw [List.length_drop, List.length_drop]
            simp only [List.length_cons] at *
            omega
          simp only [List.length_cons] at hf hg
          rw [ih g _ _ (by omega) (by omega)]
        · rw [if_pos hcode, if_pos hcode]

/-- the scan of a text that may begin with blanks -/
def scanB (f : Nat) (l : List UInt8) (p : Nat) : List Tok × Int × Int := scanR f (l.drop (blankLen false l)) (p + blankLen false l)

theorem blank_app : ∀ (r : Bool) (x y : List UInt8), blankLen r (x ++ 10 :: y) = if blankLen r x < x.length then blankLen r x else x.length + 1 + blankLen false y
  | r, [], y => by
    have e : (10 : UInt8).toNat = 10 := rfl
    simp [blankLen, e]
  | r, c :: x, y => by
    have h1 := blank_app false x y
    have h2 := blank_app true x y
    have h3 := blank_app r x y
    simp only [List.cons_append, blankLen, List.length_cons]
    by_cases c1 : c.toNat = 10
    · simp only [c1, if_true]
      rw [h1]
      by_cases h : blankLen false x < x.length
      · rw [if_pos h, if_pos (by omega)]
      · rw [if_neg h, if_neg (by omega)]; omega
    · simp only [c1, if_false]
      by_cases c2 : c.toNat = 35
      · simp only [c2, if_true]
        rw [h2]
        by_cases h : blankLen true x < x.length
        · rw [if_pos h, if_pos (by omega)]
        · rw [if_neg h, if_neg (by omega)]; omega
      · simp only [c2, if_false]
        by_cases c3 : r = false ∧ isB (c.toNat : Int) = false
        · rw [if_pos c3, if_pos c3, if_pos (by omega)]
        · rw [if_neg c3, if_neg c3, h3]
          by_cases h : blankLen r x < x.length
          · rw [if_pos h, if_pos (by omega)]
          · rw [if_neg h, if_neg (by omega)]; omega

theorem run_app : ∀ (x y : List UInt8), runLen (x ++ 10 :: y) = runLen x
  | [], y => by
    have e : isR ((10 : UInt8).toNat : Int) = false := by decide
    unfold runLen
    rw [List.nil_append, List.takeWhile_cons_of_neg (by rw [e]; simp)]
    rfl
  | c :: x, y => by
    have ih := run_app x y
    unfold runLen at ih ⊢
    simp only [List.cons_append, List.takeWhile_cons]
    by_cases h : isR (c.toNat : Int) = true
    · simp only [h, if_true, List.length_cons, ih]
    · simp [h]

theorem sign_app (x y : List UInt8) (hx : x ≠ []) : signLen (x ++ 10 :: y) = signLen x := by
  match x, hx with
  | [c], _ => simp [signLen]
  | c :: d :: x, _ => simp [signLen]

theorem take_app (x y : List UInt8) (k : Nat) (h : k ≤ x.length) : (x ++ y).take k = x.take k := by
  rw [List.take_append_of_le_length h]

theorem read_app (x y : List UInt8) (hx : x ≠ []) : read (x ++ 10 :: y) = read x := by
  have h1 := runLen_le x
  have h2 := signLen_le x
  have hh : (x ++ 10 :: y).headD 0 = x.headD 0 := by
    match x, hx with
    | c :: x, _ => rfl
  unfold read
  rw [run_app, hh, take_app _ _ _ h1]
  have hs : readSign (x ++ 10 :: y) = readSign x := by
    unfold readSign
    rw [sign_app x y hx, take_app _ _ _ h2]
  rw [hs]

theorem scanB_step (f : Nat) (l : List UInt8) (p : Nat) (hb : blankLen false l < l.length) (hcode : (read (l.drop (blankLen false l))).code = 0) (acc : List Tok) :
    comb acc (scanB (f + 1) l p) = comb (acc ++ [⟨(read (l.drop (blankLen false l))).kind, p + blankLen false l, (read (l.drop (blankLen false l))).text, (read (l.drop (blankLen false l))).n⟩])
      (scanB f ((l.drop (blankLen false l)).drop (read (l.drop (blankLen false l))).text.length) (p + blankLen false l + (read (l.drop (blankLen false l))).text.length)) := by
  unfold scanB
  have hne : l.drop (blankLen false l) ≠ [] := by
    intro e
    have := congrArg List.length e
    rw [List.length_drop] at this
    simp at this
    omega
  rw [scanR_step f _ _ hne hcode]
  generalize l.drop (blankLen false l) = l' at *
  have e1 : List.drop (blankLen false (List.drop (read l').text.length l')) (List.drop (read l').text.length l') = List.drop (nextAt l') l' := by
    rw [List.drop_drop]; rfl
  have e2 : p + blankLen false l + (read l').text.length + blankLen false (List.drop (read l').text.length l') = p + blankLen false l + nextAt l' := by unfold nextAt; omega
  rw [e1, e2]

theorem comb_comb (a : List Tok) (b : List Tok) (q : List Tok × Int × Int) (h : (comb b q).2.1 = 0) : comb a (comb b q) = comb (a ++ b) q := by
  unfold comb at h ⊢
  by_cases hq : q.2.1 = 0
  · simp [hq]
  · simp [hq] at h

theorem comb_fault (a b : List Tok) (q : List Tok × Int × Int) (h : q.2.1 ≠ 0) : comb a q = comb b q := by
  unfold comb; simp [h]

theorem comb_code (a : List Tok) (q : List Tok × Int × Int) : (comb a q).2.1 = q.2.1 := by
  unfold comb; by_cases h : q.2.1 = 0 <;> simp [h]

/-- ONE TEXT, A NEWLINE, ANOTHER -/
theorem scanB_join (y : List UInt8) : ∀ (f : Nat) (x : List UInt8) (p : Nat) (acc : List Tok), x.length + y.length + 1 ≤ f →
    comb acc (scanB f (x ++ 10 :: y) p) = if (scanB f x p).2.1 ≠ 0 then comb acc (scanB f x p) else comb (acc ++ (scanB f x p).1) (scanB f y (p + x.length + 1)) := by
  intro f
  induction f with
  | zero => intro x p acc h; omega
  | succ f ih =>
    intro x p acc hf
    have hbx := blank_app false x y
    have hle := blankLen_le false x
    by_cases hb : blankLen false x < x.length
    · rw [if_pos hb] at hbx
      have hdx : (x ++ 10 :: y).drop (blankLen false x) = x.drop (blankLen false x) ++ 10 :: y := by
        rw [List.drop_append_of_le_length (by omega)]
      have hne : x.drop (blankLen false x) ≠ [] := by
        intro e
        have := congrArg List.length e
        rw [List.length_drop] at this
        simp at this
        omega
      have hr := read_app (x.drop (blankLen false x)) y hne
      by_cases hcode : (read (x.drop (blankLen false x))).code = 0
      · have hok := read_ok _ hne hcode
        rw [List.length_drop] at hok
        rw [scanB_step f (x ++ 10 :: y) p (by rw [hbx, List.length_append]; omega) (by rw [hbx, hdx, hr]; exact hcode)]
        rw [hbx, hdx, hr]
        have hdd : List.drop (read (x.drop (blankLen false x))).text.length (x.drop (blankLen false x) ++ 10 :: y) = List.drop (read (x.drop (blankLen false x))).text.length (x.drop (blankLen false x)) ++ 10 :: y := by
          rw [List.drop_append_of_le_length (by rw [List.length_drop]; omega)]
        rw [hdd]
        have hlen : (List.drop (read (x.drop (blankLen false x))).text.length (x.drop (blankLen false x))).length = x.length - blankLen false x - (read (x.drop (blankLen false x))).text.length := by
          rw [List.length_drop, List.length_drop]
        rw [ih _ _ _ (by rw [hlen]; omega)]
        have hs0 := scanB_step f x p hb hcode []
        have hs := scanB_step f x p hb hcode acc
        generalize hq : scanB f (List.drop (read (x.drop (blankLen false x))).text.length (x.drop (blankLen false x))) (p + blankLen false x + (read (x.drop (blankLen false x))).text.length) = q at *
        have hfu : scanB f y (p + blankLen false x + (read (x.drop (blankLen false x))).text.length + (List.drop (read (x.drop (blankLen false x))).text.length (x.drop (blankLen false x))).length + 1) = scanB (f + 1) y (p + x.length + 1) := by
          have e : p + blankLen false x + (read (x.drop (blankLen false x))).text.length + (List.drop (read (x.drop (blankLen false x))).text.length (x.drop (blankLen false x))).length + 1 = p + x.length + 1 := by rw [hlen]; omega
          rw [e]
          unfold scanB
          exact scanR_fuel _ _ _ _ (by rw [List.length_drop]; omega) (by rw [List.length_drop]; omega)
        rw [hfu]
        have hc0 : (scanB (f + 1) x p).2.1 = q.2.1 := by
          have := congrArg (fun z => z.2.1) hs0
          simp only [comb_code] at this
          exact this
        rw [hc0]
        by_cases hq0 : q.2.1 = 0
        · rw [if_neg (by simpa using hq0), if_neg (by simpa using hq0)]
          have h1 : (scanB (f + 1) x p).1 = [⟨(read (x.drop (blankLen false x))).kind, p + blankLen false x, (read (x.drop (blankLen false x))).text, (read (x.drop (blankLen false x))).n⟩] ++ q.1 := by
            have := congrArg (fun z => z.1) hs0
            unfold comb at this
            rw [hc0] at this
            simpa [hq0] using this
          rw [h1, List.append_assoc]
        · rw [if_pos hq0, if_pos hq0, hs]
      · have hfx := scanR_fault f (x.drop (blankLen false x)) (p + blankLen false x) hne hcode
        have hfz := scanR_fault f (x.drop (blankLen false x) ++ 10 :: y) (p + blankLen false x) (by simp) (by rw [hr]; exact hcode)
        have ex : ∀ acc, comb acc (scanB (f + 1) x p) = ([], (read (x.drop (blankLen false x))).code, ((p + blankLen false x : Nat) : Int)) := fun acc => hfx acc
        have ez : ∀ acc, comb acc (scanB (f + 1) (x ++ 10 :: y) p) = ([], (read (x.drop (blankLen false x))).code, ((p + blankLen false x : Nat) : Int)) := by
          intro acc
          unfold scanB
          rw [hbx, hdx]
          have := hfz acc
          rw [hr] at this
          exact this
        have hc0 : (scanB (f + 1) x p).2.1 ≠ 0 := by
          have := congrArg (fun z => z.2.1) (ex [])
          simp only [comb_code] at this
          rw [this]
          exact hcode
        rw [if_pos hc0, ex, ez]
    · rw [if_neg hb] at hbx
      have hbe : blankLen false x = x.length := by omega
      have ex : scanB (f + 1) x p = ([], 0, 0) := by
        unfold scanB
        rw [List.drop_of_length_le (by omega)]
        simp [scanR]
      rw [ex]
      simp only [ne_eq, not_true_eq_false, if_false, List.append_nil]
      congr 1
      unfold scanB
      rw [hbx]
      have e1 : (x ++ 10 :: y).drop (x.length + 1 + blankLen false y) = y.drop (blankLen false y) := by
        have e2 : x.length + 1 + blankLen false y = x.length + (blankLen false y + 1) := by omega
        rw [e2, List.drop_length_add_append, List.drop_succ_cons]
      rw [e1]
      congr 1
      omega

/-- a token further behind -/
def shift (d : Nat) (t : Tok) : Tok := ⟨t.kind, t.place + d, t.text, t.n⟩

theorem scanR_shift (d : Nat) : ∀ (f : Nat) (l : List UInt8) (p : Nat),
    scanR f l (p + d) = if (scanR f l p).2.1 ≠ 0 then ([], (scanR f l p).2.1, (scanR f l p).2.2 + (d : Int)) else ((scanR f l p).1.map (shift d), 0, 0) := by
  intro f
  induction f with
  | zero => intro l p; simp [scanR]
  | succ f ih =>
    intro l p
    cases l with
    | nil => simp [scanR]
    | cons c l =>
      simp only [scanR]
      by_cases hcode : (read (c :: l)).code = 0
      · have e : p + d + (read (c :: l)).text.length + blankLen false (List.drop (read (c :: l)).text.length (c :: l)) = p + (read (c :: l)).text.length + blankLen false (List.drop (read (c :: l)).text.length (c :: l)) + d := by omega
        rw [e, ih]
        generalize scanR f (List.drop (blankLen false (List.drop (read (c :: l)).text.length (c :: l))) (List.drop (read (c :: l)).text.length (c :: l))) (p + (read (c :: l)).text.length + blankLen false (List.drop (read (c :: l)).text.length (c :: l))) = q
        by_cases hq : q.2.1 = 0
        · simp [hcode, hq, shift]
        · simp [hcode, hq]
      · simp [hcode]

theorem scan_eq (l : List UInt8) (hl : l.length ≤ 12000) (f : Nat) (hf : l.length ≤ f) (acc : List Tok) : comb acc (scanB f l 0) = comb acc (scan l) := by
  unfold scan scanB
  rw [if_neg (by omega), Nat.zero_add]
  rw [scanR_fuel f l.length _ _ (by rw [List.length_drop]; omega) (by rw [List.length_drop]; omega)]

theorem scan_noFault (l : List UInt8) (h : (scan l).2.1 = 0) : (scan l).2.2 = 0 := by
  by_cases hb : 12000 < l.length
  · unfold scan at h; rw [if_pos hb] at h; simp at h
  · have := scan_start l (by omega)
    rw [this] at h ⊢
    unfold comb at h ⊢
    split
    · rename_i h1; rw [if_pos h1] at h; exact absurd h h1
    · rfl

/-- WHAT FOLLOWS: two texts with a newline between -/
theorem scan_join (x y : List UInt8) (h : x.length + y.length + 1 ≤ 12000) :
    scan (x ++ 10 :: y) = if (scan x).2.1 ≠ 0 then scan x else if (scan y).2.1 ≠ 0 then ([], (scan y).2.1, (scan y).2.2 + ((x.length + 1 : Nat) : Int)) else ((scan x).1 ++ (scan y).1.map (shift (x.length + 1)), 0, 0) := by
  have hl : (x ++ 10 :: y).length = x.length + y.length + 1 := by simp; omega
  have hself : ∀ l : List UInt8, comb [] (scan l) = scan l := by
    intro l
    unfold comb
    by_cases h0 : (scan l).2.1 = 0
    · have h1 := scan_noFault l h0
      rw [if_neg (by simpa using h0), List.nil_append]
      rw [← h0]
      have : (0 : Int) = (scan l).2.2 := h1.symm
      rw [h0, this]
      exact Prod.ext rfl (Prod.ext (by simp [h0, h1]) (by simp [h1]))
    · have h1 := (scan_fault l h0).1
      rw [if_pos h0]
      exact Prod.ext h1.symm rfl
  have hx := scan_eq x (by omega) (x.length + y.length + 1) (by omega)
  have hy := scan_eq y (by omega) (x.length + y.length + 1) (by omega)
  have hz := scan_eq (x ++ 10 :: y) (by omega) (x.length + y.length + 1) (by omega) []
  have hj := scanB_join y (x.length + y.length + 1) x 0 [] (Nat.le_refl _)
  rw [hz, hself] at hj
  rw [hj]
  have hcx : (scanB (x.length + y.length + 1) x 0).2.1 = (scan x).2.1 := by
    have := congrArg (fun z => z.2.1) (hx [])
    simpa only [comb_code] using this
  have hcy : (scanB (x.length + y.length + 1) y 0).2.1 = (scan y).2.1 := by
    have := congrArg (fun z => z.2.1) (hy [])
    simpa only [comb_code] using this
  rw [hcx]
  by_cases h0 : (scan x).2.1 = 0
  · rw [if_neg (by simpa using h0), if_neg (by simpa using h0)]
    have h1x : (scanB (x.length + y.length + 1) x 0).1 = (scan x).1 := by
      have := congrArg (fun z => z.1) (hx [])
      unfold comb at this
      rw [hcx] at this
      simpa [h0] using this
    rw [h1x, List.nil_append]
    have hsh : scanB (x.length + y.length + 1) y (0 + x.length + 1) = if (scan y).2.1 ≠ 0 then ([], (scan y).2.1, (scanB (x.length + y.length + 1) y 0).2.2 + ((x.length + 1 : Nat) : Int)) else ((scanB (x.length + y.length + 1) y 0).1.map (shift (x.length + 1)), 0, 0) := by
      rw [← hcy]
      have := scanR_shift (x.length + 1) (x.length + y.length + 1) (y.drop (blankLen false y)) (0 + blankLen false y)
      unfold scanB
      have e : 0 + x.length + 1 + blankLen false y = 0 + blankLen false y + (x.length + 1) := by omega
      rw [e, this]
    rw [hsh]
    by_cases h2 : (scan y).2.1 = 0
    · rw [if_neg (by simpa using h2), if_neg (by simpa using h2)]
      have h1y : (scanB (x.length + y.length + 1) y 0).1 = (scan y).1 := by
        have := congrArg (fun z => z.1) (hy [])
        unfold comb at this
        rw [hcy] at this
        simpa [h2] using this
      rw [h1y]
      simp [comb]
    · rw [if_pos h2, if_pos h2]
      have h2y : (scanB (x.length + y.length + 1) y 0).2.2 = (scan y).2.2 := by
        have := congrArg (fun z => z.2.2) (hy [])
        unfold comb at this
        rw [hcy] at this
        simpa [h2] using this
      rw [h2y]
      simp [comb, h2]
  · rw [if_pos h0, if_pos h0, hx [], hself]

theorem chain_place (l : List UInt8) : ∀ (ts : List Tok) (e : Nat), Chain l e ts → ∀ t ∈ ts, t.place ≤ l.length
  | [], _, _, t, h => by simp at h
  | t :: ts, e, h, u, hu => by
    obtain ⟨h1, h2, h3, h4, _, h6⟩ := h
    rcases List.mem_cons.1 hu with rfl | hu
    · omega
    · exact chain_place l ts _ h6 u hu

end Go.Proofs.YtmgaeapckfdbpabDoor.Tk
