
/-
  DERIVED. PLAIN MATHEMATICS: a text that is cut off ahead of its last token is no program, or one of fewer nodes.
-/
import Derived.Test.YtmgaeapckfdbpaaDoorAgr
import Derived.Test.YtmgaeapckfdbpaaDoorM35
namespace Go.Proofs.YtmgaeapckfdbpaaDoor.Tk
set_option linter.unusedVariables false
set_option linter.unusedSimpArgs false

theorem blank_pre : ∀ (r : Bool) (x y : List UInt8), blankLen r x < x.length → blankLen r (x ++ y) = blankLen r x
  | r, [], y, h => by simp at h
  | r, c :: x, y, h => by
    have h1 := blank_pre false x y
    have h2 := blank_pre true x y
    have h3 := blank_pre r x y
    simp only [List.cons_append, blankLen, List.length_cons] at h ⊢
    by_cases c1 : c.toNat = 10
    · simp only [c1, if_true] at h ⊢
      rw [h1 (by omega)]
    · simp only [c1, if_false] at h ⊢
      by_cases c2 : c.toNat = 35
      · simp only [c2, if_true] at h ⊢
        rw [h2 (by omega)]
      · simp only [c2, if_false] at h ⊢
        by_cases c3 : r = false ∧ isB (c.toNat : Int) = false
        · rw [if_pos c3, if_pos c3]
        · rw [if_neg c3] at h ⊢
          rw [if_neg c3, h3 (by omega)]

theorem run_pre : ∀ (x y : List UInt8), runLen (x ++ y) = if runLen x < x.length then runLen x else x.length + runLen y
  | [], y => by simp [runLen]
  | c :: x, y => by
    have ih := run_pre x y
    unfold runLen at ih ⊢
    simp only [List.cons_append, List.takeWhile_cons]
    by_cases h : isR (c.toNat : Int) = true
    · simp only [h, if_true, List.length_cons, ih]
      by_cases h2 : (List.takeWhile (fun c : UInt8 => isR (c.toNat : Int)) x).length < x.length
      · rw [if_pos h2, if_pos (by omega)]
      · rw [if_neg h2, if_neg (by omega)]; omega
    · simp [h]

/-- what a read without fault is -/
theorem read_cases (l : List UInt8) (h : (read l).code = 0) :
    (runLen l = 0 ∧ signLen l ≠ 0 ∧ read l = ⟨4, l.take (signLen l), 0, 0⟩) ∨
    (0 < runLen l ∧ (read l).text = l.take (runLen l) ∧ (read l).kind ≠ 0) := by
  unfold read at h ⊢
  by_cases h0 : runLen l = 0
  · left
    rw [if_pos h0] at h
    rw [if_pos h0]
    unfold readSign at h ⊢
    by_cases h1 : signLen l = 0
    · simp [h1, bad] at h
    · rw [if_neg h1]; exact ⟨h0, h1, rfl⟩
  · right
    rw [if_neg h0] at h
    rw [if_neg h0]
    refine ⟨by omega, ?_⟩
    by_cases h1 : isD ((l.headD 0).toNat : Int) = true
    · rw [if_pos h1] at h ⊢
      unfold readNum at h ⊢
      by_cases h2 : badNum (l.take (runLen l)) = true
      · simp [h2, bad] at h
      · rw [if_neg h2] at h ⊢
        by_cases h3 : (l.take (runLen l)).all (fun c => isD (c.toNat : Int)) = true
        · rw [if_pos h3]; exact ⟨rfl, by simp⟩
        · simp [h3, bad] at h
    · rw [if_neg h1] at h ⊢
      unfold readName at h ⊢
      by_cases h2 : isWord (l.take (runLen l)) = true
      · rw [if_pos h2]; exact ⟨rfl, by simp⟩
      · rw [if_neg h2] at h ⊢
        by_cases h3 : 12 < (l.take (runLen l)).length
        · simp only [if_pos h3, bad] at h; simp at h
        · rw [if_neg h3]; exact ⟨rfl, by simp⟩
theorem read_kind (l : List UInt8) (h : (read l).code = 0) : (read l).kind ≠ 0 := by
  rcases read_cases l h with ⟨_, _, e⟩ | ⟨_, _, e⟩
  · rw [e]; simp
  · exact e

theorem read_pre (x y : List UInt8) (hx : x ≠ []) (h : (read (x ++ y)).code = 0) (hn : (read (x ++ y)).text.length ≤ x.length) : read x = read (x ++ y) := by
  have hrx := runLen_le x
  have hp := run_pre x y
  have hpos : 0 < x.length := List.length_pos_iff.2 hx
  have hh : (x ++ y).headD 0 = x.headD 0 := by
    match x, hx with
    | c :: x, _ => rfl
  rcases read_cases _ h with ⟨h0, h1, e⟩ | ⟨h0, e, _⟩
  · have hr : runLen x = 0 := by
      rw [h0] at hp
      split at hp <;> omega
    have hs : signLen (x ++ y) ≤ x.length := by
      rw [e] at hn
      have := signLen_le (x ++ y)
      rw [List.length_take] at hn
      omega
    have hsx : signLen x = signLen (x ++ y) := by
      match x, hx with
      | [c], _ =>
        simp only [List.cons_append, List.nil_append, signLen, List.length_singleton] at h1 hs ⊢
        split at hs
        · omega
        · rename_i hq
          rw [if_neg hq] at h1
          rw [if_neg hq]
          simp at h1 ⊢
      | c :: d :: x, _ => rfl
    have ex : read x = readSign x := by unfold read; rw [if_pos hr]
    have ey : read (x ++ y) = readSign (x ++ y) := by unfold read; rw [if_pos h0]
    rw [ex, ey]
    unfold readSign
    rw [hsx, List.take_append_of_le_length hs]
  · have hlen : (read (x ++ y)).text.length = runLen (x ++ y) := by
      rw [e, List.length_take]
      have := runLen_le (x ++ y)
      omega
    have hr : runLen x = runLen (x ++ y) := by
      split at hp <;> omega
    unfold read
    rw [← hr, hh, List.take_append_of_le_length (by omega)]
    have hz : ¬ runLen x = 0 := by omega
    rw [if_neg hz, if_neg hz]

theorem read_cut (x y : List UInt8) (hx : x ≠ []) (h : (read (x ++ y)).code = 0) (hn : x.length < (read (x ++ y)).text.length) (hc : (read x).code = 0) :
    (read x).text = x ∧ x ≠ [125] := by
  have hrx := runLen_le x
  have hp := run_pre x y
  have hpos : 0 < x.length := List.length_pos_iff.2 hx
  rcases read_cases _ h with ⟨h0, h1, e⟩ | ⟨h0, e, _⟩
  · have hs : x.length < signLen (x ++ y) := by
      rw [e] at hn
      rw [List.length_take] at hn
      omega
    match x, hx with
    | [c], _ =>
      simp only [List.cons_append, List.nil_append, signLen, List.length_singleton] at hs
      split at hs
      · rename_i hq
        have hc' : c = 61 ∨ c = 45 := by
          simp at hq
          rcases hq with ⟨h, _⟩ | ⟨h, _⟩
          · exact Or.inl h
          · exact Or.inr h
        rcases hc' with rfl | rfl
        · exact ⟨by decide, by decide⟩
        · exact ⟨by decide, by decide⟩
      · split at hs <;> omega
    | c :: d :: x, _ =>
      have : signLen (c :: d :: x ++ y) ≤ 2 := by
        simp only [List.cons_append, signLen]
        split
        · omega
        · split <;> omega
      simp only [List.length_cons] at hs
      omega
  · have hlen : (read (x ++ y)).text.length = runLen (x ++ y) := by
      rw [e, List.length_take]
      have := runLen_le (x ++ y)
      omega
    have hr : runLen x = x.length := by
      split at hp <;> omega
    rcases read_cases _ hc with ⟨k0, _, _⟩ | ⟨k0, ke, _⟩
    · omega
    · refine ⟨by rw [ke, hr, List.take_length], ?_⟩
      intro e125
      rw [e125] at hr
      revert hr
      decide

theorem scanB_ok (f : Nat) (l : List UInt8) (p : Nat) (hb : blankLen false l < l.length) (h : (scanB (f + 1) l p).2.1 = 0) :
    (read (l.drop (blankLen false l))).code = 0 ∧
    (scanB f ((l.drop (blankLen false l)).drop (read (l.drop (blankLen false l))).text.length) (p + blankLen false l + (read (l.drop (blankLen false l))).text.length)).2.1 = 0 ∧
    (scanB (f + 1) l p).1 = ⟨(read (l.drop (blankLen false l))).kind, p + blankLen false l, (read (l.drop (blankLen false l))).text, (read (l.drop (blankLen false l))).n⟩ ::
      (scanB f ((l.drop (blankLen false l)).drop (read (l.drop (blankLen false l))).text.length) (p + blankLen false l + (read (l.drop (blankLen false l))).text.length)).1 := by
  have hne : l.drop (blankLen false l) ≠ [] := by
    intro e
    have := congrArg List.length e
    rw [List.length_drop] at this
    simp at this
    omega
  by_cases hcode : (read (l.drop (blankLen false l))).code = 0
  · have hs := scanB_step f l p hb hcode []
    generalize hq : scanB f ((l.drop (blankLen false l)).drop (read (l.drop (blankLen false l))).text.length) (p + blankLen false l + (read (l.drop (blankLen false l))).text.length) = q at *
    have hc : q.2.1 = 0 := by
      have := congrArg (fun z => z.2.1) hs
      simp only [comb_code] at this
      rw [← this]; exact h
    refine ⟨hcode, hc, ?_⟩
    have := congrArg (fun z => z.1) hs
    unfold comb at this
    rw [h] at this
    simpa [hc] using this
  · have := scanR_fault f (l.drop (blankLen false l)) (p + blankLen false l) hne hcode []
    have := congrArg (fun z => z.2.1) this
    simp only [comb_code] at this
    exact absurd (this.symm.trans h) hcode

theorem scanB_none (f : Nat) (l : List UInt8) (p : Nat) (hb : ¬ blankLen false l < l.length) : scanB f l p = ([], 0, 0) := by
  have := blankLen_le false l
  unfold scanB
  rw [List.drop_of_length_le (by omega)]
  cases f <;> simp [scanR]

theorem scanB_kinds : ∀ (f : Nat) (l : List UInt8) (p : Nat), (scanB f l p).2.1 = 0 → ∀ t ∈ (scanB f l p).1, t.kind ≠ 0 := by
  intro f
  induction f with
  | zero => intro l p h t ht; simp [scanB, scanR] at ht
  | succ f ih =>
    intro l p h t ht
    by_cases hb : blankLen false l < l.length
    · obtain ⟨h1, h2, h3⟩ := scanB_ok f l p hb h
      rw [h3] at ht
      rcases List.mem_cons.1 ht with rfl | ht
      · exact read_kind _ h1
      · exact ih _ _ h2 t ht
    · rw [scanB_none _ _ _ hb] at ht; simp at ht

/-- A TEXT THAT IS CUT OFF: its tokens are the first ones of the whole text, and perhaps one that was cut -/
theorem scanB_cut (y : List UInt8) : ∀ (f : Nat) (x : List UInt8) (p : Nat), x.length + y.length ≤ f → (scanB f (x ++ y) p).2.1 = 0 → (scanB f x p).2.1 = 0 →
    ∃ k, k ≤ (scanB f (x ++ y) p).1.length ∧ ((scanB f x p).1 = (scanB f (x ++ y) p).1.take k ∨ ∃ u, (scanB f x p).1 = (scanB f (x ++ y) p).1.take k ++ [u] ∧ u.text ≠ [125]) := by
  intro f
  induction f with
  | zero =>
    intro x p hf h1 h2
    exact ⟨0, Nat.zero_le _, Or.inl (by simp [scanB, scanR])⟩
  | succ f ih =>
    intro x p hf h1 h2
    by_cases hb : blankLen false x < x.length
    · have hbx := blank_pre false x y hb
      have hbxy : blankLen false (x ++ y) < (x ++ y).length := by rw [hbx, List.length_append]; omega
      have hdx : (x ++ y).drop (blankLen false x) = x.drop (blankLen false x) ++ y := by
        rw [List.drop_append_of_le_length (by omega)]
      have hne : x.drop (blankLen false x) ≠ [] := by
        intro e
        have := congrArg List.length e
        rw [List.length_drop] at this
        simp at this
        omega
      obtain ⟨a1, a2, a3⟩ := scanB_ok f (x ++ y) p hbxy h1
      obtain ⟨b1, b2, b3⟩ := scanB_ok f x p hb h2
      rw [hbx, hdx] at a1 a2 a3
      have hlx : (x.drop (blankLen false x)).length = x.length - blankLen false x := List.length_drop
      by_cases hn : (read (x.drop (blankLen false x) ++ y)).text.length ≤ (x.drop (blankLen false x)).length
      · have hr := read_pre _ y hne a1 hn
        rw [hr] at b1 b2 b3
        have hok := read_ok _ (by simp [hne]) a1
        have hdd : List.drop (read (x.drop (blankLen false x) ++ y)).text.length (x.drop (blankLen false x) ++ y) = List.drop (read (x.drop (blankLen false x) ++ y)).text.length (x.drop (blankLen false x)) ++ y := by
          rw [List.drop_append_of_le_length hn]
        rw [hdd] at a2 a3
        obtain ⟨k, hk, hcut⟩ := ih _ _ (by rw [List.length_drop, hlx]; omega) a2 b2
        refine ⟨k + 1, by rw [a3]; simp only [List.length_cons]; omega, ?_⟩
        rw [a3, b3]
        rcases hcut with e | ⟨u, e, hu⟩
        · left; rw [e]; rfl
        · right; exact ⟨u, by rw [e]; rfl, hu⟩
      · obtain ⟨c1, c2⟩ := read_cut _ y hne a1 (by omega) b1
        refine ⟨0, Nat.zero_le _, Or.inr ⟨⟨(read (x.drop (blankLen false x))).kind, p + blankLen false x, (read (x.drop (blankLen false x))).text, (read (x.drop (blankLen false x))).n⟩, ?_, ?_⟩⟩
        · rw [b3, List.take_zero, List.nil_append]
          congr 1
          rw [c1, List.drop_length]
          rw [scanB_none _ _ _ (by simp [blankLen])]
        · show (read (x.drop (blankLen false x))).text ≠ _
          rw [c1]; exact c2
    · rw [scanB_none _ x _ hb]
      exact ⟨0, Nat.zero_le _, Or.inl (by simp)⟩

theorem scan_scanB (l : List UInt8) (hl : l.length ≤ 12000) (f : Nat) (hf : l.length ≤ f) : (scanB f l 0).2.1 = (scan l).2.1 ∧ ((scan l).2.1 = 0 → (scanB f l 0).1 = (scan l).1) := by
  have hx := scan_eq l hl f hf []
  have hc : (scanB f l 0).2.1 = (scan l).2.1 := by
    have := congrArg (fun z => z.2.1) hx
    simpa only [comb_code] using this
  refine ⟨hc, fun h0 => ?_⟩
  have := congrArg (fun z => z.1) hx
  unfold comb at this
  rw [hc] at this
  simpa [h0] using this
theorem scan_len (l : List UInt8) (h : (scan l).2.1 = 0) : l.length ≤ 12000 := by
  apply Classical.byContradiction
  intro hl
  unfold scan at h
  rw [if_pos (by omega)] at h
  simp at h
theorem scan_kinds (l : List UInt8) (h : (scan l).2.1 = 0) : ∀ t ∈ (scan l).1, t.kind ≠ 0 := by
  obtain ⟨h1, h2⟩ := scan_scanB l (scan_len l h) l.length (Nat.le_refl _)
  rw [← h2 h]
  exact scanB_kinds _ _ _ (h1.trans h)
theorem scan_cut (l : List UInt8) (n : Nat) (h : (scan l).2.1 = 0) (h2 : (scan (l.take n)).2.1 = 0) :
    ∃ k, k ≤ (scan l).1.length ∧ ((scan (l.take n)).1 = (scan l).1.take k ∨ ∃ u, (scan (l.take n)).1 = (scan l).1.take k ++ [u] ∧ u.text ≠ [125]) := by
  have hl := scan_len l h
  have hlt : (l.take n).length ≤ l.length := by rw [List.length_take]; omega
  obtain ⟨a1, a2⟩ := scan_scanB l hl l.length (Nat.le_refl _)
  obtain ⟨b1, b2⟩ := scan_scanB (l.take n) (by omega) l.length hlt
  have := scanB_cut (l.drop n) l.length (l.take n) 0 (by rw [← List.length_append, List.take_append_drop]; omega) (by rw [List.take_append_drop]; exact a1.trans h) (b1.trans h2)
  rw [List.take_append_drop, a2 h, b2 h2] at this
  exact this
end Go.Proofs.YtmgaeapckfdbpaaDoor.Tk

namespace Go.Proofs.YtmgaeapckfdbpaaDoor
set_option linter.unusedVariables false

theorem bind_ok {α β : Type} {x : Res α} {f : α → Nat → Res β} {v : β} {m : Nat} (h : x.bind f = .ok v m) : ∃ a n, x = .ok a n ∧ f a n = .ok v m := by
  cases x with
  | ok a n => exact ⟨a, n, rfl, h⟩
  | err c a => cases h
theorem need_was {I : Inp} {t : List UInt8} {n : Nat} {v : Unit} {m : Nat} (ht : t ≠ []) (h : Ps.need I t n = .ok v m) : n < I.L.length ∧ m = n + 1 ∧ Ps.sees I t n = true := by
  unfold Ps.need at h
  split at h
  · rename_i hs
    cases h
    exact ⟨sees_in ht hs, rfl, hs⟩
  · cases h

theorem lines_end {I J : Inp} {s sh : Nat} (R : Rel I J s sh) : ∀ (f : Nat) (loc : List De) (eqs : List Eqn) (n : Nat) (v : List De × List Eqn) (m : Nat), n ≤ I.L.length → I.L.length < n + f → Ps.lines I f loc eqs n = .ok v m →
    0 < m ∧ Ps.sees I [125] (m - 1) = true := by
  intro f
  induction f with
  | zero => intro loc eqs n v m h1 h2; omega
  | succ f ih =>
    intro loc eqs n v m h1 h2 h
    unfold Ps.lines at h
    split at h
    · rename_i hs
      cases h
      exact ⟨by omega, by simpa using hs⟩
    · obtain ⟨p, n1, e1, e2⟩ := bind_ok h
      have hl := ((agr_line R loc eqs n).ok p n1 e1).1
      have hle : n1 ≤ I.L.length := by
        unfold Ps.line at e1
        obtain ⟨p2, n2, _, e3⟩ := bind_ok e1
        obtain ⟨_, n3, e4, e5⟩ := bind_ok e3
        obtain ⟨q1, q2, _⟩ := need_was (by decide) e4
        cases e5
        omega
      exact ih _ _ _ _ _ hle (by omega) e2
theorem node_end {I J : Inp} {s sh : Nat} (R : Rel I J s sh) {n : Nat} {v : Nd} {m : Nat} (h : Ps.node I n = .ok v m) : 0 < m ∧ Ps.sees I [125] (m - 1) = true ∧ m ≤ I.L.length := by
  unfold Ps.node at h
  obtain ⟨_, _, _, h⟩ := bind_ok h
  obtain ⟨_, _, _, h⟩ := bind_ok h
  obtain ⟨_, _, _, h⟩ := bind_ok h
  obtain ⟨_, _, _, h⟩ := bind_ok h
  obtain ⟨_, _, _, h⟩ := bind_ok h
  obtain ⟨_, _, _, h⟩ := bind_ok h
  obtain ⟨_, _, _, h⟩ := bind_ok h
  obtain ⟨_, _, _, h⟩ := bind_ok h
  obtain ⟨_, _, _, h⟩ := bind_ok h
  obtain ⟨_, n14, hn, h⟩ := bind_ok h
  obtain ⟨p, m', hl, h⟩ := bind_ok h
  cases h
  obtain ⟨q1, q2, _⟩ := need_was (by decide) hn
  obtain ⟨r1, r2⟩ := lines_end R _ _ _ _ _ _ (by omega) (by omega) hl
  have := sees_in (by decide) r2
  exact ⟨r1, r2, by omega⟩
theorem nodes_end {I J : Inp} {s sh : Nat} (R : Rel I J s sh) : ∀ (f : Nat) (acc : List Nd) (n : Nat) (v : List Nd) (m : Nat), n ≤ I.L.length → (0 < n ∧ Ps.sees I [125] (n - 1) = true) → Ps.nodes I f acc n = .ok v m →
    m = I.L.length ∧ 0 < m ∧ Ps.sees I [125] (m - 1) = true := by
  intro f
  induction f with
  | zero =>
    intro acc n v m h1 h2 h
    unfold Ps.nodes at h
    split at h
    · rename_i hk
      cases h
      have : ¬ n < I.L.length := fun hl => R.kind n hl hk
      exact ⟨by omega, h2⟩
    · split at h <;> cases h
  | succ f ih =>
    intro acc n v m h1 h2 h
    unfold Ps.nodes at h
    split at h
    · rename_i hk
      cases h
      have : ¬ n < I.L.length := fun hl => R.kind n hl hk
      exact ⟨by omega, h2⟩
    · obtain ⟨x, n1, e1, e2⟩ := bind_ok h
      obtain ⟨q1, q2, q3⟩ := node_end R e1
      exact ih _ _ _ _ q3 ⟨q1, q2⟩ e2
theorem program_end {I J : Inp} {s sh : Nat} (R : Rel I J s sh) {v : List Nd} {m : Nat} (h : Ps.program I = .ok v m) : m = I.L.length ∧ 0 < m ∧ Ps.sees I [125] (m - 1) = true := by
  unfold Ps.program at h
  obtain ⟨x, n1, e1, e2⟩ := bind_ok h
  obtain ⟨q1, q2, q3⟩ := node_end R e1
  exact nodes_end R _ _ _ _ _ q3 ⟨q1, q2⟩ e2
theorem nodes_len (I : Inp) : ∀ (f : Nat) (acc : List Nd) (n : Nat) (v : List Nd) (m : Nat), Ps.nodes I f acc n = .ok v m → acc.length ≤ v.length := by
  intro f
  induction f with
  | zero =>
    intro acc n v m h
    unfold Ps.nodes at h
    split at h
    · cases h; exact Nat.le_refl _
    · split at h <;> cases h
  | succ f ih =>
    intro acc n v m h
    unfold Ps.nodes at h
    split at h
    · cases h; exact Nat.le_refl _
    · obtain ⟨x, n1, e1, e2⟩ := bind_ok h
      have := ih _ _ _ _ e2
      rw [List.length_append] at this
      simp at this
      omega

/-- the faults' codes and places -/
theorem program_err {I J : Inp} {s sh : Nat} (R : Rel I J s sh) {c a : Nat} (h : Ps.program I = .err c a) : 4 ≤ c ∧ a ≤ I.len := by
  have hn : ∀ (f : Nat) (acc : List Nd) (n : Nat), Ps.nodes I f acc n = .err c a → 4 ≤ c ∧ a ≤ I.len := by
    intro f
    induction f with
    | zero =>
      intro acc n h
      unfold Ps.nodes at h
      split at h
      · cases h
      · split at h
        · cases h; exact ⟨by omega, R.le n⟩
        · have := (agr_refuse (α := List Nd) R id n).err c a h
          exact ⟨this.1, this.2.1⟩
    | succ f ih =>
      intro acc n h
      unfold Ps.nodes at h
      split at h
      · cases h
      · cases e : Ps.node I n with
        | ok x n1 => rw [e] at h; exact ih _ _ h
        | err c1 a1 =>
          rw [e] at h
          have := (agr_node R n).err c1 a1 e
          cases h
          exact ⟨this.1, this.2.1⟩
  unfold Ps.program at h
  cases e : Ps.node I 0 with
  | ok x n1 => rw [e] at h; exact hn _ _ _ h
  | err c1 a1 =>
    rw [e] at h
    have := (agr_node R 0).err c1 a1 e
    cases h
    exact ⟨this.1, this.2.1⟩

/-- fewer tokens, fewer nodes -/
theorem nodes_fewer {I J : Inp} (R : Rel I J 0 0) (hJ : ∀ n, n < J.L.length → (J.pk n).kind ≠ 0) (hlt : I.L.length < J.L.length) :
    ∀ (f : Nat) (acc acc' : List Nd) (n : Nat) (v v' : List Nd) (m m' : Nat), acc.length = acc'.length → n ≤ I.L.length → Ps.nodes I f acc n = .ok v m → Ps.nodes J f acc' n = .ok v' m' → v.length < v'.length := by
  intro f
  induction f with
  | zero =>
    intro acc acc' n v v' m m' ha hn h h'
    unfold Ps.nodes at h h'
    rw [if_neg (hJ n (by omega))] at h'
    split at h' <;> cases h'
  | succ f ih =>
    intro acc acc' n v v' m m' ha hn h h'
    unfold Ps.nodes at h h'
    rw [if_neg (hJ n (by omega))] at h'
    obtain ⟨x', n1', e1', e2'⟩ := bind_ok h'
    split at h
    · cases h
      have := nodes_len _ _ _ _ _ _ e2'
      rw [List.length_append] at this
      simp at this
      omega
    · obtain ⟨x, n1, e1, e2⟩ := bind_ok h
      obtain ⟨q1, q2, q3⟩ := node_end R e1
      have := ((agr_node R n).ok x n1 e1).2 q3
      rw [Nat.add_zero, Nat.add_zero] at this
      rw [this] at e1'
      cases e1'
      exact ih _ _ _ _ _ _ _ (by simp [ha]) q3 e2 e2'
theorem program_fewer {I J : Inp} (R : Rel I J 0 0) (hJ : ∀ n, n < J.L.length → (J.pk n).kind ≠ 0) (hlt : I.L.length < J.L.length) {v v' : List Nd} {m m' : Nat}
    (h : Ps.program I = .ok v m) (h' : Ps.program J = .ok v' m') : v.length < v'.length := by
  unfold Ps.program at h h'
  obtain ⟨x, n1, e1, e2⟩ := bind_ok h
  obtain ⟨x', n1', e1', e2'⟩ := bind_ok h'
  obtain ⟨q1, q2, q3⟩ := node_end R e1
  have e3 : Res.ok (Nd.sh 0 x) n1 = .ok x' n1' := (((agr_node R 0).ok x n1 e1).2 q3).symm.trans e1'
  injection e3 with e4 e5
  subst e4 e5
  exact nodes_fewer R hJ hlt 9 [x] [Nd.sh 0 x] n1 _ _ _ _ rfl q3 e2 e2'

theorem pk_get (I : Inp) (n : Nat) (h : n < I.L.length) : I.pk n = I.L[n] := by unfold Inp.pk peekT; rw [dif_pos h]
theorem rel_self (t : List UInt8) (h : (Tk.scan t).2.1 = 0) : Rel ⟨(Tk.scan t).1, t.length⟩ ⟨(Tk.scan t).1, t.length⟩ 0 0 := by
  have hk := Tk.scan_kinds t h
  have hp := Tk.chain_place t _ _ (Tk.scan_chain t h)
  refine ⟨fun n hn => rfl, fun n hn => ?_, fun n hn => ?_, Nat.le_refl _⟩
  · rw [pk_get _ _ hn]; exact hk _ (List.getElem_mem _)
  · rw [pk_get _ _ hn]; exact hp _ (List.getElem_mem _)
theorem rel_take (t : List UInt8) (n k : Nat) (h : (Tk.scan t).2.1 = 0) (h2 : (Tk.scan (t.take n)).2.1 = 0) (e : (Tk.scan (t.take n)).1 = (Tk.scan t).1.take k) :
    Rel ⟨(Tk.scan (t.take n)).1, (t.take n).length⟩ ⟨(Tk.scan t).1, t.length⟩ 0 0 := by
  have hs := rel_self (t.take n) h2
  have hle : (Tk.scan (t.take n)).1.length ≤ (Tk.scan t).1.length := by rw [e, List.length_take]; omega
  refine ⟨fun j hj => ?_, hs.kind, hs.place, hle⟩
  have hj' : j < (Tk.scan (t.take n)).1.length := hj
  have hj2 : j < (Tk.scan t).1.length := by omega
  rw [pk_get ⟨(Tk.scan t).1, t.length⟩ (j + 0) hj2, pk_get _ _ hj]
  show (Tk.scan t).1[j] = _
  have : (Tk.scan (t.take n)).1[j] = (Tk.scan t).1[j] := by
    simp only [e, List.getElem_take]
  show _ = (⟨((Tk.scan (t.take n)).1[j]).kind, ((Tk.scan (t.take n)).1[j]).place + 0, ((Tk.scan (t.take n)).1[j]).text, ((Tk.scan (t.take n)).1[j]).n⟩ : Tk.Tok)
  rw [this]
  rfl

/-- A TEXT THAT IS CUT OFF ahead of its last token: no program, or one of fewer nodes -/
theorem parse_cut (t : List UInt8) (n : Nat) (hp : (parseT t).2.1 = 0) (hn : ∀ (hl : (Tk.scan t).1 ≠ []), n ≤ ((Tk.scan t).1.getLast hl).place) :
    (Tk.scan t).1 ≠ [] ∧ (Tk.scan t).2.1 = 0 ∧
    (((parseT (t.take n)).2.1 = 0 → (parseT (t.take n)).1.length < (parseT t).1.length) ∧
     ((parseT (t.take n)).2.1 ≠ 0 → 0 ≤ (parseT (t.take n)).2.2 ∧ (parseT (t.take n)).2.2 ≤ (t.take n).length ∧ (parseT (t.take n)).1 = [])) := by
  have h0 : (Tk.scan t).2.1 = 0 := by
    apply Classical.byContradiction
    intro hc
    unfold parseT at hp
    simp only [] at hp
    rw [if_neg hc] at hp
    exact hc hp
  have hs := rel_self t h0
  obtain ⟨P, m, hP⟩ : ∃ P m, Ps.program ⟨(Tk.scan t).1, t.length⟩ = .ok P m := by
    cases e : Ps.program ⟨(Tk.scan t).1, t.length⟩ with
    | ok P m => exact ⟨P, m, rfl⟩
    | err c a =>
      have h4 := (program_err hs e).1
      unfold parseT at hp
      simp only [] at hp
      rw [if_pos h0, e] at hp
      simp at hp
      omega
  have eP : (parseT t).1 = P := by
    unfold parseT
    simp only []
    rw [if_pos h0, hP]
  obtain ⟨m1, m2, m3⟩ := program_end hs hP
  have hne : (Tk.scan t).1 ≠ [] := by
    intro e
    rw [m1] at m2
    simp [e] at m2
  refine ⟨hne, h0, ?_⟩
  have hn := hn hne
  rw [eP]
  by_cases h2 : (Tk.scan (t.take n)).2.1 = 0
  · have hs2 := rel_self (t.take n) h2
    have eq : parseT (t.take n) = match Ps.program ⟨(Tk.scan (t.take n)).1, (t.take n).length⟩ with | .ok l _ => (l, 0, 0) | .err c a => ([], (c : Int), (a : Int)) := by
      unfold parseT
      simp only []
      rw [if_pos h2]
      cases Ps.program ⟨(Tk.scan (t.take n)).1, (t.take n).length⟩ <;> rfl
    cases e : Ps.program ⟨(Tk.scan (t.take n)).1, (t.take n).length⟩ with
    | err c a =>
      obtain ⟨h4, h5⟩ := program_err hs2 e
      rw [eq, e]
      refine ⟨fun h => ?_, fun _ => ⟨?_, ?_, rfl⟩⟩
      · simp at h; omega
      · simp
      · simp; simp at h5; omega
    | ok Q m' =>
      rw [eq, e]
      refine ⟨fun _ => ?_, fun h => absurd rfl h⟩
      show Q.length < P.length
      obtain ⟨k1, k2, k3⟩ := program_end hs2 e
      obtain ⟨k, hk, hcut⟩ := Tk.scan_cut t n h0 h2
      rcases hcut with hc | ⟨u, hc, hu⟩
      · have R := rel_take t n k h0 h2 hc
        refine program_fewer R hs.kind ?_ e hP
        show (Tk.scan (t.take n)).1.length < (Tk.scan t).1.length
        have hle : (Tk.scan (t.take n)).1.length ≤ (Tk.scan t).1.length := R.len
        apply Classical.byContradiction
        intro hge
        have hall : (Tk.scan (t.take n)).1 = (Tk.scan t).1 := by
          rw [hc] at hge
          rw [List.length_take] at hge
          rw [hc, List.take_of_length_le (by omega)]
        have hch := Tk.scan_chain (t.take n) h2
        rw [hall] at hch
        have hpl : ∀ (ts : List Tk.Tok) (e : Nat), Tk.Chain (t.take n) e ts → ∀ u ∈ ts, u.place < (t.take n).length := by
          intro ts
          induction ts with
          | nil => intro e _ u hu; simp at hu
          | cons t1 ts ih =>
            intro e h u hu
            obtain ⟨g1, g2, g3, g4, _, g6⟩ := h
            rcases List.mem_cons.1 hu with rfl | hu
            · omega
            · exact ih _ g6 u hu
        have := hpl _ _ hch _ (List.getLast_mem hne)
        rw [List.length_take] at this
        omega
      · exfalso
        apply hu
        have hlen : (Tk.scan (t.take n)).1.length = ((Tk.scan t).1.take k).length + 1 := by rw [hc]; simp
        have hm1 : m' - 1 < (Tk.scan (t.take n)).1.length := by
          have : m' = (Tk.scan (t.take n)).1.length := k1
          omega
        unfold Ps.sees at k3
        rw [pk_get _ _ hm1] at k3
        have hidx : (Tk.scan (t.take n)).1[m' - 1]'hm1 = u := by
          have : m' = (Tk.scan (t.take n)).1.length := k1
          have e2 : m' - 1 = ((Tk.scan t).1.take k).length := by omega
          simp only [hc, e2]
          simp
        have k4 : ((Tk.scan (t.take n)).1[m' - 1]'hm1).text = [125] := by simpa using k3
        rw [hidx] at k4
        exact k4
  · have eq : parseT (t.take n) = ([], (Tk.scan (t.take n)).2.1, (Tk.scan (t.take n)).2.2) := by
      unfold parseT
      simp only []
      rw [if_neg h2]
    rw [eq]
    obtain ⟨f1, f2, f3⟩ := Tk.scan_fault _ h2
    exact ⟨fun h => absurd h h2, fun _ => ⟨f2, f3, rfl⟩⟩
end Go.Proofs.YtmgaeapckfdbpaaDoor
