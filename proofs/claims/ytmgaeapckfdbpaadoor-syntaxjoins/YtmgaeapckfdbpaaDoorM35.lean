/-
  DERIVED. PLAIN MATHEMATICS: two texts with a newline between have the tokens of both, those of the second one further behind.
-/
import Derived.Test.YtmgaeapckfdbpaaDoorM01
import Derived.Test.YtmgaeapckfdbpaaDoorM34
import Derived.Deep.QuietTactic
import Derived.BigQuiet
import Derived.Deep.DeepCutAuto
namespace Go.Proofs.YtmgaeapckfdbpaaDoor.Tk
set_option linter.unusedVariables false
set_option linter.unusedSimpArgs false

theorem scanR_fuel : ∀ (f g : Nat) (l : List UInt8) (p : Nat), l.length ≤ f → l.length ≤ g → scanR f l p = scanR g l p := by
  intro f
  induction f with
  | zero =>
    intro g l p hf hg
    have : l = [] := List.length_eq_zero_iff.1 (by omega)
    subst this
    cases g <;> simp [scanR]
  | succ f ih =>
    intro g l p hf hg
    cases l with
    | nil => cases g <;> simp [scanR]
    | cons c l =>
      cases g with
      | zero => simp at hg
      | succ g =>
        simp only [scanR]
        by_cases hcode : (read (c :: l)).code = 0
        · have hok := read_ok (c :: l) (by simp) hcode
          have hlen : (List.drop (blankLen false (List.drop (read (c :: l)).text.length (c :: l))) (List.drop (read (c :: l)).text.length (c :: l))).length ≤ l.length := by
            rw [List.length_drop, List.length_drop]
            simp only [List.length_cons] at *
            omega
          simp only [List.length_cons] at hf hg
          rw [ih g _ _ (by omega) (by omega)]
        · rw [if_pos hcode, if_pos hcode]

/-- the scan of a text that may begin with blanks -/
def scanB (f : Nat) (l : List UInt8) (p : Nat) : List Tok × Int × Int := scanR f (l.drop (blankLen false l)) (p + blankLen false l)

theorem blank_app : ∀ (r : Bool) (x y : List UInt8), blankLen r (x ++ 10 :: y) = if blankLen r x < x.length then blankLen r x else x.length + 1 + blankLen false y
  | r, [], y => by
    have e : (10 : UInt8).toNat = 10 := rfl
    simp [blankLen, e]
  | r, c :: x, y => by
    have h1 := blank_app false x y
    have h2 := blank_app true x y
    have h3 := blank_app r x y
    simp only [List.cons_append, blankLen, List.length_cons]
    by_cases c1 : c.toNat = 10
    · simp only [c1, if_true]
      rw [h1]
      by_cases h : blankLen false x < x.length
      · rw [if_pos h, if_pos (by omega)]
      · rw [if_neg h, if_neg (by omega)]; omega
    · simp only [c1, if_false]
      by_cases c2 : c.toNat = 35
      · simp only [c2, if_true]
        rw [h2]
        by_cases h : blankLen true x < x.length
        · rw [if_pos h, if_pos (by omega)]
        · rw [if_neg h, if_neg (by omega)]; omega
      · simp only [c2, if_false]
        by_cases c3 : r = false ∧ isB (c.toNat : Int) = false
        · rw [if_pos c3, if_pos c3, if_pos (by omega)]
        · rw [if_neg c3, if_neg c3, h3]
          by_cases h : blankLen r x < x.length
          · rw [if_pos h, if_pos (by omega)]
          · rw [if_neg h, if_neg (by omega)]; omega

theorem run_app : ∀ (x y : List UInt8), runLen (x ++ 10 :: y) = runLen x
  | [], y => by
    have e : isR ((10 : UInt8).toNat : Int) = false := by decide
    unfold runLen
    rw [List.nil_append, List.takeWhile_cons_of_neg (by rw [e]; simp)]
    rfl
  | c :: x, y => by
    have ih := run_app x y
    unfold runLen at ih ⊢
    simp only [List.cons_append, List.takeWhile_cons]
    by_cases h : isR (c.toNat : Int) = true
    · simp only [h, if_true, List.length_cons, ih]
    · simp [h]

theorem sign_app (x y : List UInt8) (hx : x ≠ []) : signLen (x ++ 10 :: y) = signLen x := by
  match x, hx with
  | [c], _ => simp [signLen]
  | c :: d :: x, _ => simp [signLen]

theorem take_app (x y : List UInt8) (k : Nat) (h : k ≤ x.length) : (x ++ y).take k = x.take k := by
  rw [List.take_append_of_le_length h]

theorem read_app (x y : List UInt8) (hx : x ≠ []) : read (x ++ 10 :: y) = read x := by
  have h1 := runLen_le x
  have h2 := signLen_le x
  have hh : (x ++ 10 :: y).headD 0 = x.headD 0 := by
    match x, hx with
    | c :: x, _ => rfl
  unfold read
  rw [run_app, hh, take_app _ _ _ h1]
  have hs : readSign (x ++ 10 :: y) = readSign x := by
    unfold readSign
    rw [sign_app x y hx, take_app _ _ _ h2]
  rw [hs]

theorem scanB_step (f : Nat) (l : List UInt8) (p : Nat) (hb : blankLen false l < l.length) (hcode : (read (l.drop (blankLen false l))).code = 0) (acc : List Tok) :
    comb acc (scanB (f + 1) l p) = comb (acc ++ [⟨(read (l.drop (blankLen false l))).kind, p + blankLen false l, (read (l.drop (blankLen false l))).text, (read (l.drop (blankLen false l))).n⟩])
      (scanB f ((l.drop (blankLen false l)).drop (read (l.drop (blankLen false l))).text.length) (p + blankLen false l + (read (l.drop (blankLen false l))).text.length)) := by
  unfold scanB
  have hne : l.drop (blankLen false l) ≠ [] := by
    intro e
    have := congrArg List.length e
    rw [List.length_drop] at this
    simp at this
    omega
  rw [scanR_step f _ _ hne hcode]
  generalize l.drop (blankLen false l) = l' at *
  have e1 : List.drop (blankLen false (List.drop (read l').text.length l')) (List.drop (read l').text.length l') = List.drop (nextAt l') l' := by
    rw [List.drop_drop]; rfl
  have e2 : p + blankLen false l + (read l').text.length + blankLen false (List.drop (read l').text.length l') = p + blankLen false l + nextAt l' := by unfold nextAt; omega
  rw [e1, e2]

theorem comb_comb (a : List Tok) (b : List Tok) (q : List Tok × Int × Int) (h : (comb b q).2.1 = 0) : comb a (comb b q) = comb (a ++ b) q := by
  unfold comb at h ⊢
  by_cases hq : q.2.1 = 0
  · simp [hq]
  · simp [hq] at h

theorem comb_fault (a b : List Tok) (q : List Tok × Int × Int) (h : q.2.1 ≠ 0) : comb a q = comb b q := by
  unfold comb; simp [h]

theorem comb_code (a : List Tok) (q : List Tok × Int × Int) : (comb a q).2.1 = q.2.1 := by
  unfold comb; by_cases h : q.2.1 = 0 <;> simp [h]

/-- ONE TEXT, A NEWLINE, ANOTHER -/
theorem scanB_join (y : List UInt8) : ∀ (f : Nat) (x : List UInt8) (p : Nat) (acc : List Tok), x.length + y.length + 1 ≤ f →
    comb acc (scanB f (x ++ 10 :: y) p) = if (scanB f x p).2.1 ≠ 0 then comb acc (scanB f x p) else comb (acc ++ (scanB f x p).1) (scanB f y (p + x.length + 1)) := by
  intro f
  induction f with
  | zero => intro x p acc h; omega
  | succ f ih =>
    intro x p acc hf
    have hbx := blank_app false x y
    have hle := blankLen_le false x
    by_cases hb : blankLen false x < x.length
    · rw [if_pos hb] at hbx
      have hdx : (x ++ 10 :: y).drop (blankLen false x) = x.drop (blankLen false x) ++ 10 :: y := by
        rw [List.drop_append_of_le_length (by omega)]
      have hne : x.drop (blankLen false x) ≠ [] := by
        intro e
        have := congrArg List.length e
        rw [List.length_drop] at this
        simp at this
        omega
      have hr := read_app (x.drop (blankLen false x)) y hne
      by_cases hcode : (read (x.drop (blankLen false x))).code = 0
      · have hok := read_ok _ hne hcode
        rw [List.length_drop] at hok
        rw [scanB_step f (x ++ 10 :: y) p (by rw [hbx, List.length_append]; omega) (by rw [hbx, hdx, hr]; exact hcode)]
        rw [hbx, hdx, hr]
        have hdd : List.drop (read (x.drop (blankLen false x))).text.length (x.drop (blankLen false x) ++ 10 :: y) = List.drop (read (x.drop (blankLen false x))).text.length (x.drop (blankLen false x)) ++ 10 :: y := by
          rw [List.drop_append_of_le_length (by rw [List.length_drop]; omega)]
        rw [hdd]
        have hlen : (List.drop (read (x.drop (blankLen false x))).text.length (x.drop (blankLen false x))).length = x.length - blankLen false x - (read (x.drop (blankLen false x))).text.length := by
          rw [List.length_drop, List.length_drop]
        rw [ih _ _ _ (by rw [hlen]; omega)]
        have hs0 := scanB_step f x p hb hcode []
        have hs := scanB_step f x p hb hcode acc
        generalize hq : scanB f (List.drop (read (x.drop (blankLen false x))).text.length (x.drop (blankLen false x))) (p + blankLen false x + (read (x.drop (blankLen false x))).text.length) = q at *
        have hfu : scanB f y (p + blankLen false x + (read (x.drop (blankLen false x))).text.length + (List.drop (read (x.drop (blankLen false x))).text.length (x.drop (blankLen false x))).length + 1) = scanB (f + 1) y (p + x.length + 1) := by
          have e : p + blankLen false x + (read (x.drop (blankLen false x))).text.length + (List.drop (read (x.drop (blankLen false x))).text.length (x.drop (blankLen false x))).length + 1 = p + x.length + 1 := by rw [hlen]; omega
          rw [e]
          unfold scanB
          exact scanR_fuel _ _ _ _ (by rw [List.length_drop]; omega) (by rw [List.length_drop]; omega)
        rw [hfu]
        have hc0 : (scanB (f + 1) x p).2.1 = q.2.1 := by
          have := congrArg (fun z => z.2.1) hs0
          simp only [comb_code] at this
          exact this
        rw [hc0]
        by_cases hq0 : q.2.1 = 0
        · rw [if_neg (by simpa using hq0), if_neg (by simpa using hq0)]
          have h1 : (scanB (f + 1) x p).1 = [⟨(read (x.drop (blankLen false x))).kind, p + blankLen false x, (read (x.drop (blankLen false x))).text, (read (x.drop (blankLen false x))).n⟩] ++ q.1 := by
            have := congrArg (fun z => z.1) hs0
            unfold comb at this
            rw [hc0] at this
            simpa [hq0] using this
          rw [h1, List.append_assoc]
        · rw [if_pos hq0, if_pos hq0, hs]
      · have hfx := scanR_fault f (x.drop (blankLen false x)) (p + blankLen false x) hne hcode
        have hfz := scanR_fault f (x.drop (blankLen false x) ++ 10 :: y) (p + blankLen false x) (by simp) (by rw [hr]; exact hcode)
        have ex : ∀ acc, comb acc (scanB (f + 1) x p) = ([], (read (x.drop (blankLen false x))).code, ((p + blankLen false x : Nat) : Int)) := fun acc => hfx acc
        have ez : ∀ acc, comb acc (scanB (f + 1) (x ++ 10 :: y) p) = ([], (read (x.drop (blankLen false x))).code, ((p + blankLen false x : Nat) : Int)) := by
          intro acc
          unfold scanB
          rw [hbx, hdx]
          have := hfz acc
          rw [hr] at this
          exact this
        have hc0 : (scanB (f + 1) x p).2.1 ≠ 0 := by
          have := congrArg (fun z => z.2.1) (ex [])
          simp only [comb_code] at this
          rw [this]
          exact hcode
        rw [if_pos hc0, ex, ez]
    · rw [if_neg hb] at hbx
      have hbe : blankLen false x = x.length := by omega
      have ex : scanB (f + 1) x p = ([], 0, 0) := by
        unfold scanB
        rw [List.drop_of_length_le (by omega)]
        simp [scanR]
      rw [ex]
      simp only [ne_eq, not_true_eq_false, if_false, List.append_nil]
      congr 1
      unfold scanB
      rw [hbx]
      have e1 : (x ++ 10 :: y).drop (x.length + 1 + blankLen false y) = y.drop (blankLen false y) := by
        have e2 : x.length + 1 + blankLen false y = x.length + (blankLen false y + 1) := by omega
        rw [e2, List.drop_length_add_append, List.drop_succ_cons]
      rw [e1]
      congr 1
      omega

/-- a token further behind -/
def shift (d : Nat) (t : Tok) : Tok := ⟨t.kind, t.place + d, t.text, t.n⟩

theorem scanR_shift (d : Nat) : ∀ (f : Nat) (l : List UInt8) (p : Nat),
    scanR f l (p + d) = if (scanR f l p).2.1 ≠ 0 then ([], (scanR f l p).2.1, (scanR f l p).2.2 + (d : Int)) else ((scanR f l p).1.map (shift d), 0, 0) := by
  intro f
  induction f with
  | zero => intro l p; simp [scanR]
  | succ f ih =>
    intro l p
    cases l with
    | nil => simp [scanR]
    | cons c l =>
      simp only [scanR]
      by_cases hcode : (read (c :: l)).code = 0
      · have e : p + d + (read (c :: l)).text.length + blankLen false (List.drop (read (c :: l)).text.length (c :: l)) = p + (read (c :: l)).text.length + blankLen false (List.drop (read (c :: l)).text.length (c :: l)) + d := by omega
        rw [e, ih]
        generalize scanR f (List.drop (blankLen false (List.drop (read (c :: l)).text.length (c :: l))) (List.drop (read (c :: l)).text.length (c :: l))) (p + (read (c :: l)).text.length + blankLen false (List.drop (read (c :: l)).text.length (c :: l))) = q
        by_cases hq : q.2.1 = 0
        · simp [hcode, hq, shift]
        · simp [hcode, hq]
      · simp [hcode]

theorem scan_eq (l : List UInt8) (hl : l.length ≤ 12000) (f : Nat) (hf : l.length ≤ f) (acc : List Tok) : comb acc (scanB f l 0) = comb acc (scan l) := by
  unfold scan scanB
  rw [if_neg (by omega), Nat.zero_add]
  rw [scanR_fuel f l.length _ _ (by rw [List.length_drop]; omega) (by rw [List.length_drop]; omega)]

theorem scan_noFault (l : List UInt8) (h : (scan l).2.1 = 0) : (scan l).2.2 = 0 := by
  by_cases hb : 12000 < l.length
  · unfold scan at h; rw [if_pos hb] at h; simp at h
  · have := scan_start l (by omega)
    rw [this] at h ⊢
    unfold comb at h ⊢
    split
    · rename_i h1; rw [if_pos h1] at h; exact absurd h h1
    · rfl

/-- WHAT FOLLOWS: two texts with a newline between -/
theorem scan_join (x y : List UInt8) (h : x.length + y.length + 1 ≤ 12000) :
    scan (x ++ 10 :: y) = if (scan x).2.1 ≠ 0 then scan x else if (scan y).2.1 ≠ 0 then ([], (scan y).2.1, (scan y).2.2 + ((x.length + 1 : Nat) : Int)) else ((scan x).1 ++ (scan y).1.map (shift (x.length + 1)), 0, 0) := by
  have hl : (x ++ 10 :: y).length = x.length + y.length + 1 := by simp; omega
  have hself : ∀ l : List UInt8, comb [] (scan l) = scan l := by
    intro l
    unfold comb
    by_cases h0 : (scan l).2.1 = 0
    · have h1 := scan_noFault l h0
      rw [if_neg (by simpa using h0), List.nil_append]
      rw [← h0]
      have : (0 : Int) = (scan l).2.2 := h1.symm
      rw [h0, this]
      exact Prod.ext rfl (Prod.ext (by simp [h0, h1]) (by simp [h1]))
    · have h1 := (scan_fault l h0).1
      rw [if_pos h0]
      exact Prod.ext h1.symm rfl
  have hx := scan_eq x (by omega) (x.length + y.length + 1) (by omega)
  have hy := scan_eq y (by omega) (x.length + y.length + 1) (by omega)
  have hz := scan_eq (x ++ 10 :: y) (by omega) (x.length + y.length + 1) (by omega) []
  have hj := scanB_join y (x.length + y.length + 1) x 0 [] (Nat.le_refl _)
  rw [hz, hself] at hj
  rw [hj]
  have hcx : (scanB (x.length + y.length + 1) x 0).2.1 = (scan x).2.1 := by
    have := congrArg (fun z => z.2.1) (hx [])
    simpa only [comb_code] using this
  have hcy : (scanB (x.length + y.length + 1) y 0).2.1 = (scan y).2.1 := by
    have := congrArg (fun z => z.2.1) (hy [])
    simpa only [comb_code] using this
  rw [hcx]
  by_cases h0 : (scan x).2.1 = 0
  · rw [if_neg (by simpa using h0), if_neg (by simpa using h0)]
    have h1x : (scanB (x.length + y.length + 1) x 0).1 = (scan x).1 := by
      have := congrArg (fun z => z.1) (hx [])
      unfold comb at this
      rw [hcx] at this
      simpa [h0] using this
    rw [h1x, List.nil_append]
    have hsh : scanB (x.length + y.length + 1) y (0 + x.length + 1) = if (scan y).2.1 ≠ 0 then ([], (scan y).2.1, (scanB (x.length + y.length + 1) y 0).2.2 + ((x.length + 1 : Nat) : Int)) else ((scanB (x.length + y.length + 1) y 0).1.map (shift (x.length + 1)), 0, 0) := by
      rw [← hcy]
      have := scanR_shift (x.length + 1) (x.length + y.length + 1) (y.drop (blankLen false y)) (0 + blankLen false y)
      unfold scanB
      have e : 0 + x.length + 1 + blankLen false y = 0 + blankLen false y + (x.length + 1) := by omega
      rw [e, this]
    rw [hsh]
    by_cases h2 : (scan y).2.1 = 0
    · rw [if_neg (by simpa using h2), if_neg (by simpa using h2)]
      have h1y : (scanB (x.length + y.length + 1) y 0).1 = (scan y).1 := by
        have := congrArg (fun z => z.1) (hy [])
        unfold comb at this
        rw [hcy] at this
        simpa [h2] using this
      rw [h1y]
      simp [comb]
    · rw [if_pos h2, if_pos h2]
      have h2y : (scanB (x.length + y.length + 1) y 0).2.2 = (scan y).2.2 := by
        have := congrArg (fun z => z.2.2) (hy [])
        unfold comb at this
        rw [hcy] at this
        simpa [h2] using this
      rw [h2y]
      simp [comb, h2]
  · rw [if_pos h0, if_pos h0, hx [], hself]

theorem chain_place (l : List UInt8) : ∀ (ts : List Tok) (e : Nat), Chain l e ts → ∀ t ∈ ts, t.place ≤ l.length
  | [], _, _, t, h => by simp at h
  | t :: ts, e, h, u, hu => by
    obtain ⟨h1, h2, h3, h4, _, h6⟩ := h
    rcases List.mem_cons.1 hu with rfl | hu
    · omega
    · exact chain_place l ts _ h6 u hu

end Go.Proofs.YtmgaeapckfdbpaaDoor.Tk


/-
  DERIVED. PLAIN MATHEMATICS for the document's own Scan, which goes byte by byte.
-/
namespace Go.Proofs.YtmgaeapckfdbpaaDoor.Tk
set_option linter.unusedVariables false
set_option linter.unusedSimpArgs false

theorem scanB_blank (f : Nat) (c : UInt8) (l : List UInt8) (p : Nat) (h : isB (c.toNat : Int) = true) : scanB f (c :: l) p = scanB f l (p + 1) := by
  have h35 : ¬ (c.toNat : Int) = 35 := by simp [isB] at h; omega
  have hs : stops false (c.toNat : Int) = false := by simp [stops, h]
  have hf : flag false (c.toNat : Int) = false := by unfold flag; split <;> simp [h35]
  unfold scanB
  rw [blankLen_go _ _ _ hs, hf]
  have e1 : p + (1 + blankLen false l) = p + 1 + blankLen false l := by omega
  have e2 : 1 + blankLen false l = blankLen false l + 1 := by omega
  rw [e1, e2, List.drop_succ_cons]

/-- the scan within a remark -/
def scanM (f : Nat) (l : List UInt8) (p : Nat) : List Tok × Int × Int := scanR f (l.drop (blankLen true l)) (p + blankLen true l)

theorem scanM_step (f : Nat) (c : UInt8) (l : List UInt8) (p : Nat) (h : ¬ (c.toNat : Int) = 10) : scanM f (c :: l) p = scanM f l (p + 1) := by
  have hf : flag true (c.toNat : Int) = true := by unfold flag; rw [if_neg h]; split <;> rfl
  have hs : stops true (c.toNat : Int) = false := by simp [stops, hf]
  unfold scanM
  rw [blankLen_go _ _ _ hs, hf]
  have e1 : p + (1 + blankLen true l) = p + 1 + blankLen true l := by omega
  have e2 : 1 + blankLen true l = blankLen true l + 1 := by omega
  rw [e1, e2, List.drop_succ_cons]

theorem scanM_hash (f : Nat) (c : UInt8) (l : List UInt8) (p : Nat) (h : (c.toNat : Int) = 35) : scanB f (c :: l) p = scanM f (c :: l) p := by
  have h' : c.toNat = 35 := by omega
  unfold scanB scanM
  have e : blankLen false (c :: l) = blankLen true (c :: l) := by simp [blankLen, h']
  rw [e]

theorem scanM_nl (f : Nat) (c : UInt8) (l : List UInt8) (p : Nat) (h : (c.toNat : Int) = 10) : scanM f (c :: l) p = scanB f (c :: l) p := by
  have h' : c.toNat = 10 := by omega
  unfold scanB scanM
  have e : blankLen false (c :: l) = blankLen true (c :: l) := by simp [blankLen, h']
  rw [e]

theorem scanM_nil (f : Nat) (p : Nat) : scanM f [] p = scanB f [] p := rfl

theorem blank_none (c : UInt8) (l : List UInt8) (h1 : isB (c.toNat : Int) = false) (h2 : ¬ (c.toNat : Int) = 35) : blankLen false (c :: l) = 0 := by
  apply blankLen_stop
  have h10 : ¬ (c.toNat : Int) = 10 := by intro e; rw [e] at h1; simp [isB] at h1
  simp [stops, flag, h10, h2, h1]

theorem scanB_tok (f : Nat) (l : List UInt8) (p : Nat) (hne : l ≠ []) (h0 : blankLen false l = 0) (hcode : (read l).code = 0) (acc : List Tok) :
    comb acc (scanB (f + 1) l p) = comb (acc ++ [⟨(read l).kind, p, (read l).text, (read l).n⟩]) (scanB f (l.drop (read l).text.length) (p + (read l).text.length)) := by
  have hl : 0 < l.length := List.length_pos_iff.2 hne
  have := scanB_step f l p (by omega) (by rw [h0]; exact hcode) acc
  rw [h0] at this
  simpa using this

theorem scanB_bad (f : Nat) (l : List UInt8) (p : Nat) (hne : l ≠ []) (h0 : blankLen false l = 0) (hcode : (read l).code ≠ 0) (acc : List Tok) :
    comb acc (scanB (f + 1) l p) = ([], (read l).code, (p : Int)) := by
  unfold scanB
  rw [h0]
  exact scanR_fault f l p hne hcode acc

theorem scanB_end (f : Nat) (p : Nat) (acc : List Tok) : comb acc (scanB f [] p) = (acc, 0, 0) := by
  unfold scanB
  exact scanR_end f _ acc

theorem run_pos (c : UInt8) (l : List UInt8) (h : isR (c.toNat : Int) = true) : 0 < runLen (c :: l) := by
  unfold runLen
  rw [List.takeWhile_cons, if_pos h]
  simp

theorem run_zero (c : UInt8) (l : List UInt8) (h : isR (c.toNat : Int) = false) : runLen (c :: l) = 0 := by
  unfold runLen
  rw [List.takeWhile_cons, if_neg (by rw [h]; simp)]
  rfl

theorem read_name (c : UInt8) (l : List UInt8) (h : isL (c.toNat : Int) = true) : read (c :: l) = readName ((c :: l).take (runLen (c :: l))) := by
  have h1 := run_pos c l (by simp [isR, h])
  have h2 : isD (c.toNat : Int) = false := by simp [isL] at h; simp [isD]; omega
  unfold read
  rw [if_neg (by omega), List.headD_cons, if_neg (by rw [h2]; simp)]

theorem read_num (c : UInt8) (l : List UInt8) (h : isD (c.toNat : Int) = true) : read (c :: l) = readNum ((c :: l).take (runLen (c :: l))) := by
  have h1 := run_pos c l (by simp [isR, h])
  unfold read
  rw [if_neg (by omega), List.headD_cons, if_pos h]

theorem read_sign (c : UInt8) (l : List UInt8) (h : isL (c.toNat : Int) = false) (h' : isD (c.toNat : Int) = false) : read (c :: l) = readSign (c :: l) := by
  have h1 := run_zero c l (by simp [isR, h, h'])
  unfold read
  rw [if_pos h1]

theorem numVal_acc : ∀ (l : List UInt8) (a : Int), 0 ≤ a → l.all (fun c => isD (c.toNat : Int)) = true → 0 ≤ l.foldl (fun a c => a * 10 + ((c.toNat : Int) - 48)) a
  | [], a, h, _ => h
  | c :: l, a, h, ha => by
    simp only [List.all_cons, Bool.and_eq_true] at ha
    have h1 := ha.1
    simp [isD] at h1
    exact numVal_acc l _ (show 0 ≤ a * 10 + ((c.toNat : Int) - 48) by omega) ha.2

theorem numVal_nonneg (l : List UInt8) (h : l.all (fun c => isD (c.toNat : Int)) = true) : 0 ≤ numVal l := numVal_acc l 0 (Int.le_refl _) h

theorem signLen_cons (c : UInt8) (l : List UInt8) : signLen (c :: l) = if (c == 61 && l.head? == some 61) || (c == 45 && l.head? == some 62) then 2 else if isS c then 1 else 0 := rfl

theorem signLen_two (c : UInt8) (l : List UInt8) : signLen (c :: l) = 2 ↔ (c = 61 ∧ l.head? = some 61) ∨ (c = 45 ∧ l.head? = some 62) := by
  rw [signLen_cons]
  constructor
  · intro h
    split at h
    · rename_i h1; simpa using h1
    · split at h <;> simp at h
  · intro h
    rw [if_pos (by simpa using h)]

theorem signLen_one (c : UInt8) (l : List UInt8) (h : signLen (c :: l) ≠ 2) : signLen (c :: l) = if isS c then 1 else 0 := by
  rw [signLen_cons] at h ⊢
  split
  · rename_i h1; rw [if_pos h1] at h; exact absurd rfl h
  · rfl

end Go.Proofs.YtmgaeapckfdbpaaDoor.Tk


/-
  DERIVED. SMALL LAWS for the walk of the document's own Scan.
-/
namespace Go.Proofs.YtmgaeapckfdbpaaDoor
open Go.RowKit Go.IntWalk
set_option linter.unusedVariables false
set_option linter.unusedSimpArgs false

theorem str_take (s : ByteArray) (t : List UInt8) (p n : Nat) (h : t = (s.data.toList.drop p).take n) : str t = s.extract p (p + n) := by
  apply ByteArray.ext
  apply Array.toList_inj.1
  rw [extract_list, Nat.add_sub_cancel_left, ← h]
  simp [str]

/-- what an append of a token leaves -/
theorem next_tok {w w1 w2 : World} {acc : List Tk.Tok} {u v : Value} {K N : Int} {p : Nat} {t : List UInt8} {tx : ByteArray} (htx : str t = tx)
    (hown1 : w1.ownsRow (w.heap.size + 1) 53 4 u acc.length (toksCells acc)) (hbw : Below (w.heap.size + 1) (w.alloc (.cells #[.int .i64 0, .int .i64 0] 27)) w1) (hzw : w.heap.size < w1.heap.size) {o : Obj}
    (hown2 : w2.ownsRow (w.heap.size + 1) 53 4 v (acc.length + 1) (toksCells acc ++ [.int .i64 K, .int .i64 (p : Int), .string tx, .int .i64 N])) (hgrow : (w1.alloc o).grownBy w2 u.ownBlock) :
    w2.ownsRow (w.heap.size + 1) 53 4 v (acc ++ [(⟨K, p, t, N⟩ : Tk.Tok)]).length (toksCells (acc ++ [(⟨K, p, t, N⟩ : Tk.Tok)])) ∧ Below (w.heap.size + 1) (w.alloc (.cells #[.int .i64 0, .int .i64 0] 27)) w2 := by
  constructor
  · have e1 : (acc ++ [(⟨K, p, t, N⟩ : Tk.Tok)]).length = acc.length + 1 := by simp
    have e2 : toksCells (acc ++ [(⟨K, p, t, N⟩ : Tk.Tok)]) = toksCells acc ++ [Value.int .i64 K, .int .i64 (p : Int), .string tx, .int .i64 N] := by simp [toksCells, tokCells, htx]
    rw [e1, e2]
    exact hown2
  · exact (hbw.alloc hzw _).grown hgrow (by simp; omega) (fun k hk => (hown1.lt k hk).1)

theorem new4 (w : World) (a b c d : Value) (j : Nat) (u : Value) (hj : [a, b, c, d][j]? = some u) : (w.alloc (.cells #[a, b, c, d] 53)).cell? ((⟨w.heap.size, 0, none⟩ : Addr).add j) = some u := by
  match j, hj with
  | 0, hj => simp at hj; subst hj; simp [Addr.add]
  | 1, hj => simp at hj; subst hj; simp [Addr.add]
  | 2, hj => simp at hj; subst hj; simp [Addr.add]
  | 3, hj => simp at hj; subst hj; simp [Addr.add]

theorem readNum_neg (t : List UInt8) (h : numR t < 0) : Tk.readNum t = Tk.bad 2 := by
  unfold numR at h
  unfold Tk.readNum
  split
  · rfl
  · rename_i h1
    rw [if_neg h1] at h
    split
    · rename_i h2
      rw [if_pos h2] at h
      have := Tk.numVal_nonneg t h2
      omega
    · rfl

theorem readNum_pos (t : List UInt8) (h : ¬ numR t < 0) : Tk.readNum t = ⟨3, t, numR t, 0⟩ := by
  unfold numR at h ⊢
  unfold Tk.readNum
  split
  · rename_i h1
    rw [if_pos h1] at h
    simp at h
  · rename_i h1
    rw [if_neg h1] at h
    split
    · rfl
    · rename_i h2
      rw [if_neg h2] at h
      simp at h

theorem ext2 (s : ByteArray) (p : Nat) (hp : p < s.size) (hp1 : p + 1 < s.size) : (s.extract p (p + 2)).toList = [s[p], s[p + 1]] := by
  rw [Lib.toList_data, extract_list, Nat.add_sub_cancel_left]
  have e1 : s.data.toList.drop p = s[p] :: s.data.toList.drop (p + 1) := List.drop_eq_getElem_cons (by simpa using hp)
  have e2 : s.data.toList.drop (p + 1) = s[p + 1] :: s.data.toList.drop (p + 1 + 1) := List.drop_eq_getElem_cons (by simpa using hp1)
  rw [e1, e2]
  rfl

theorem head_next (s : ByteArray) (p : Nat) (hp1 : p + 1 < s.size) : (s.data.toList.drop (p + 1)).head? = some s[p + 1] := by
  have e2 : s.data.toList.drop (p + 1) = s[p + 1] :: s.data.toList.drop (p + 1 + 1) := List.drop_eq_getElem_cons (by simpa using hp1)
  rw [e2]
  rfl

theorem two_yes (s : ByteArray) (p : Nat) (hp : p < s.size) (h : Tk.signLen (s[p] :: s.data.toList.drop (p + 1)) = 2) :
    p + 1 < s.size ∧ (((s.extract p (p + 2)).toList == [61, 61]) = true ∨ (((s.extract p (p + 2)).toList == [61, 61]) = false ∧ ((s.extract p (p + 2)).toList == [45, 62]) = true)) := by
  rw [Tk.signLen_two] at h
  have hp1 : p + 1 < s.size := by
    by_cases h1 : p + 1 < s.size
    · exact h1
    · exfalso
      rw [List.drop_of_length_le (by rw [← Lib.size_eq]; omega)] at h
      simp at h
  refine ⟨hp1, ?_⟩
  rw [head_next s p hp1] at h
  rw [ext2 s p hp hp1]
  rcases h with ⟨h1, h2⟩ | ⟨h1, h2⟩
  · injection h2 with h2
    left
    rw [h1, h2]
    rfl
  · injection h2 with h2
    right
    rw [h1, h2]
    exact ⟨rfl, rfl⟩

theorem two_no (s : ByteArray) (p : Nat) (hp : p < s.size) (h : Tk.signLen (s[p] :: s.data.toList.drop (p + 1)) ≠ 2) (hp1 : p + 1 < s.size) :
    ((s.extract p (p + 2)).toList == [61, 61]) = false ∧ ((s.extract p (p + 2)).toList == [45, 62]) = false := by
  rw [ne_eq, Tk.signLen_two, head_next s p hp1] at h
  rw [ext2 s p hp hp1]
  constructor
  · rw [beq_eq_false_iff_ne]
    intro e
    injection e with e1 e2
    injection e2 with e2
    exact h (Or.inl ⟨e1, by rw [e2]⟩)
  · rw [beq_eq_false_iff_ne]
    intro e
    injection e with e1 e2
    injection e2 with e2
    exact h (Or.inr ⟨e1, by rw [e2]⟩)

theorem byte_int (c : UInt8) (k : Nat) (hk : k < 256) : ((c.toNat : Int) == (k : Int)) = (c == UInt8.ofNat k) := by
  rw [Bool.eq_iff_iff, beq_iff_eq, beq_iff_eq]
  constructor
  · intro h
    apply UInt8.toNat_inj.1
    rw [UInt8.toNat_ofNat']
    omega
  · intro h
    rw [h, UInt8.toNat_ofNat']
    omega

theorem signs_no (c : UInt8) (h : Tk.isS c = false) :
    ((c.toNat : Int) == 40) = false ∧ ((c.toNat : Int) == 41) = false ∧ ((c.toNat : Int) == 123) = false ∧ ((c.toNat : Int) == 125) = false ∧ ((c.toNat : Int) == 91) = false ∧ ((c.toNat : Int) == 93) = false ∧
    ((c.toNat : Int) == 60) = false ∧ ((c.toNat : Int) == 62) = false ∧ ((c.toNat : Int) == 44) = false ∧ ((c.toNat : Int) == 59) = false ∧ ((c.toNat : Int) == 58) = false ∧ ((c.toNat : Int) == 43) = false ∧
    ((c.toNat : Int) == 45) = false ∧ ((c.toNat : Int) == 42) = false ∧ ((c.toNat : Int) == 47) = false ∧ ((c.toNat : Int) == 37) = false ∧ ((c.toNat : Int) == 61) = false ∧ ((c.toNat : Int) == 94) = false := by
  have key : ∀ k : Nat, k < 256 → UInt8.ofNat k ∈ Tk.signs → ((c.toNat : Int) == (k : Int)) = false := by
    intro k hk hm
    rw [byte_int c k hk]
    unfold Tk.isS at h
    rw [List.any_eq_false] at h
    have := h _ hm
    rw [beq_eq_false_iff_ne]
    intro e
    rw [e] at this
    simp at this
  exact ⟨key 40 (by decide) (by decide), key 41 (by decide) (by decide), key 123 (by decide) (by decide), key 125 (by decide) (by decide), key 91 (by decide) (by decide), key 93 (by decide) (by decide),
    key 60 (by decide) (by decide), key 62 (by decide) (by decide), key 44 (by decide) (by decide), key 59 (by decide) (by decide), key 58 (by decide) (by decide), key 43 (by decide) (by decide),
    key 45 (by decide) (by decide), key 42 (by decide) (by decide), key 47 (by decide) (by decide), key 37 (by decide) (by decide), key 61 (by decide) (by decide), key 94 (by decide) (by decide)⟩

theorem signs_yes (c : UInt8) (h : Tk.isS c = true) :
    (c.toNat : Int) = 40 ∨ (c.toNat : Int) = 41 ∨ (c.toNat : Int) = 123 ∨ (c.toNat : Int) = 125 ∨ (c.toNat : Int) = 91 ∨ (c.toNat : Int) = 93 ∨ (c.toNat : Int) = 60 ∨ (c.toNat : Int) = 62 ∨ (c.toNat : Int) = 44 ∨
    (c.toNat : Int) = 59 ∨ (c.toNat : Int) = 58 ∨ (c.toNat : Int) = 43 ∨ (c.toNat : Int) = 45 ∨ (c.toNat : Int) = 42 ∨ (c.toNat : Int) = 47 ∨ (c.toNat : Int) = 37 ∨ (c.toNat : Int) = 61 ∨ (c.toNat : Int) = 94 := by
  unfold Tk.isS Tk.signs at h
  simp only [List.any_cons, List.any_nil, Bool.or_false, Bool.or_eq_true, beq_iff_eq] at h
  rcases h with h | h | h | h | h | h | h | h | h | h | h | h | h | h | h | h | h | h <;> subst h <;> simp

end Go.Proofs.YtmgaeapckfdbpaaDoor
