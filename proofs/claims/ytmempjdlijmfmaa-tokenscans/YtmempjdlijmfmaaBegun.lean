/-
  DERIVED. THE WALKS of token.Name and of tokenBegun; what a row of tokens holds.
-/
import Derived.Test.YtmempjdlijmfmaaScan
namespace Go.Proofs.Ytmempjdlijmfmaa
open Go.RowKit Go.IntWalk
set_option linter.unusedVariables false
set_option linter.unusedSimpArgs false

/-- token.Name -/
def isName (l : List UInt8) : Bool := !l.isEmpty && decide (l.length ≤ 12) && Tk.isL ((l.headD 0).toNat : Int) && (Tk.runLen l == l.length) && !(Tk.isWord l)

set_option maxHeartbeats 1000000 in
theorem name_any (s : ByteArray) (w : World) (hml : s.size ≤ maxLen) :
    Calls Try.prog 12 #[.string s] w fun e w' => e = .returned (.bool (isName s.data.toList)) ∧ w' = w := by
  obtain ⟨r, hr⟩ : ∃ r, r = isName s.data.toList := ⟨_, rfl⟩
  rw [← hr]
  unfold isName at hr
  have hsz : s.data.toList.length = s.size := by rw [Lib.size_eq]
  by_cases h0 : s.size = 0
  · have hs : s = ⟨#[]⟩ := ByteArray.ext (Array.eq_empty_of_size_eq_zero h0)
    subst hs
    have : r = false := by rw [hr]; rfl
    subst this
    clear hr
    go_enter Try.func12, Try.ntmps12
    go_wp2_with (first
      | (go_at_call 21; refine (isLetter_any _ _).mono ?_; rintro e w' ⟨rfl, rfl⟩)
      | (go_at_call 22; refine (runLength_any _ _ hml).mono ?_; rintro e w' ⟨rfl, rfl⟩)
      | (go_at_call 10; refine (word_any _ _).mono ?_; rintro e w' ⟨rfl, rfl⟩))
    go_ret
    exact ⟨rfl, rfl⟩
  · have hp : 0 < s.size := by omega
    have hhd : s.data.toList.headD 0 = s[0] := headD_eq s.data.toList (by rw [← Lib.size_eq]; omega)
    have hem : s.data.toList.isEmpty = false := by
      cases hc : s.data.toList with
      | nil => exfalso; rw [Lib.size_eq, hc] at hp; simp at hp
      | cons a b => rfl
    rw [hhd, hsz, hem] at hr
    have hne : (s.toList == []) = false := by
      rw [Lib.toList_data]
      cases hc : s.data.toList with
      | nil => rw [hc] at hem; cases hem
      | cons a b => rfl
    clear hem hhd hsz
    by_cases h12 : 12 < s.size
    · have : r = false := by rw [hr]; simp; omega
      subst this
      clear hr
      go_enter Try.func12, Try.ntmps12
      go_wp2_with (first
        | (go_at_call 21; refine (isLetter_any _ _).mono ?_; rintro e w' ⟨rfl, rfl⟩)
        | (go_at_call 22; refine (runLength_any _ _ hml).mono ?_; rintro e w' ⟨rfl, rfl⟩)
        | (go_at_call 10; refine (word_any _ _).mono ?_; rintro e w' ⟨rfl, rfl⟩))
      go_ret
      exact ⟨rfl, rfl⟩
    · have hd12 : decide (s.size ≤ 12) = true := by simp; omega
      have hd12' : decide ((12 : Int) < (s.size : Int)) = false := by simp; omega
      rw [hd12] at hr
      clear hd12
      cases hL : Tk.isL ((s[0]).toNat : Int)
      · have : r = false := by rw [hr, hL]; rfl
        subst this
        clear hr
        go_enter Try.func12, Try.ntmps12
        go_wp2_with (first
          | (go_at_call 21; refine (isLetter_any _ _).mono ?_; rintro e w' ⟨rfl, rfl⟩)
          | (go_at_call 22; refine (runLength_any _ _ hml).mono ?_; rintro e w' ⟨rfl, rfl⟩)
          | (go_at_call 10; refine (word_any _ _).mono ?_; rintro e w' ⟨rfl, rfl⟩))
        go_ret
        exact ⟨rfl, rfl⟩
      · rw [hL] at hr
        cases hrl : (Tk.runLen s.data.toList == s.size)
        · have : r = false := by rw [hr, hrl]; rfl
          subst this
          have hri : ((Tk.runLen s.data.toList : Int) == (s.size : Int)) = false := by
            rw [beq_eq_false_iff_ne] at hrl ⊢; omega
          clear hr hrl
          go_enter Try.func12, Try.ntmps12
          go_wp2_with (first
            | (go_at_call 21; refine (isLetter_any _ _).mono ?_; rintro e w' ⟨rfl, rfl⟩)
            | (go_at_call 22; refine (runLength_any _ _ hml).mono ?_; rintro e w' ⟨rfl, rfl⟩)
            | (go_at_call 10; refine (word_any _ _).mono ?_; rintro e w' ⟨rfl, rfl⟩))
          go_ret
          exact ⟨rfl, rfl⟩
        · have hri : ((Tk.runLen s.data.toList : Int) == (s.size : Int)) = true := by
            rw [beq_iff_eq] at hrl ⊢; omega
          have HR : Hid (r = !Tk.isWord s.data.toList) := by show _ = _; rw [hr, hrl]; simp
          clear hr hrl
          go_enter Try.func12, Try.ntmps12
          go_wp2_with (first
            | (go_at_call 21; refine (isLetter_any _ _).mono ?_; rintro e w' ⟨rfl, rfl⟩)
            | (go_at_call 22; refine (runLength_any _ _ hml).mono ?_; rintro e w' ⟨rfl, rfl⟩)
            | (go_at_call 10; refine (word_any _ _).mono ?_; rintro e w' ⟨rfl, rfl⟩))
          go_ret
          exact ⟨ret_bool (by rw [HR.out]), rfl⟩

/-- what a slice of tokens holds: cell by cell -/
def HoldsToks (w : World) (g : Nat) (L : List Tk.Tok) : Prop :=
  ∀ i (hi : i < L.length), w.cell? ⟨g, i * 4, none⟩ = some (.int .i64 (L[i]).kind) ∧ w.cell? ⟨g, i * 4 + 1, none⟩ = some (.int .i64 ((L[i]).place : Int)) ∧
    w.cell? ⟨g, i * 4 + 2, none⟩ = some (.string (str (L[i]).text)) ∧ w.cell? ⟨g, i * 4 + 3, none⟩ = some (.int .i64 (L[i]).n)

theorem toksCells_at : ∀ (L : List Tk.Tok) (i : Nat) (hi : i < L.length),
    (toksCells L)[i * 4]? = some (.int .i64 (L[i]).kind) ∧ (toksCells L)[i * 4 + 1]? = some (.int .i64 ((L[i]).place : Int)) ∧
    (toksCells L)[i * 4 + 2]? = some (.string (str (L[i]).text)) ∧ (toksCells L)[i * 4 + 3]? = some (.int .i64 (L[i]).n)
  | [], i, hi => by simp at hi
  | t :: L, 0, _ => by simp [toksCells, tokCells]
  | t :: L, i + 1, hi => by
    have ih := toksCells_at L i (by simpa using hi)
    have e : toksCells (t :: L) = tokCells t ++ toksCells L := by simp [toksCells]
    have hl : (tokCells t).length = 4 := rfl
    rw [e]
    have go : ∀ j, (tokCells t ++ toksCells L)[(i + 1) * 4 + j]? = (toksCells L)[i * 4 + j]? := by
      intro j
      rw [List.getElem?_append_right (by rw [hl]; omega), hl]
      congr 1
      omega
    exact ⟨(go 0).trans ih.1, (go 1).trans ih.2.1, (go 2).trans ih.2.2.1, (go 3).trans ih.2.2.2⟩

theorem owns_toks {w : World} {base : Nat} {v : Value} {L : List Tk.Tok} (h : w.ownsRow base 31 4 v L.length (toksCells L)) :
    (v = .slice none 0 0 ∧ L = []) ∨ ∃ g cap, v = .slice (some ⟨g, 0, none⟩) L.length cap ∧ base ≤ g ∧ g < w.heap.size ∧ L.length ≤ cap ∧ cap ≤ maxLen ∧ HoldsToks w g L := by
  have hcell := @World.ownsRow.cells _ _ _ _ _ _ _ h
  rcases h.2 with ⟨rfl, h0⟩ | ⟨g, cap, cur, rfl, hb, hg, hnc, hcm, hcs, htake⟩
  · exact .inl ⟨rfl, List.length_eq_zero_iff.1 h0⟩
  · refine .inr ⟨g, cap, rfl, hb, (Array.getElem?_eq_some_iff.1 hg).1, hnc, hcm, fun i hi => ?_⟩
    have hc := @hcell g rfl
    have ha := toksCells_at L i hi
    have adds : ∀ j, (⟨g, 0, none⟩ : Addr).add j = ⟨g, j, none⟩ := by intro j; unfold Addr.add; split <;> simp_all
    have k0 := hc _ _ ha.1
    have k1 := hc _ _ ha.2.1
    have k2 := hc _ _ ha.2.2.1
    have k3 := hc _ _ ha.2.2.2
    rw [adds] at k0 k1 k2 k3
    exact ⟨k0, k1, k2, k3⟩

/-- a slice of tokens, nil or not -/
theorem toks_slice {w : World} {base : Nat} {v : Value} {L : List Tk.Tok} (h : w.ownsRow base 31 4 v L.length (toksCells L)) :
    ∃ ao g cap, v = .slice ao L.length cap ∧ L.length ≤ cap ∧ cap ≤ maxLen ∧ (0 < L.length → ao = some ⟨g, 0, none⟩ ∧ base ≤ g ∧ g < w.heap.size ∧ HoldsToks w g L) := by
  rcases owns_toks h with ⟨rfl, rfl⟩ | ⟨g, cap, rfl, h1, h2, h3, h4, h5⟩
  · exact ⟨none, 0, 0, rfl, Nat.le_refl _, Nat.zero_le _, fun h => by simp at h⟩
  · exact ⟨some ⟨g, 0, none⟩, g, cap, rfl, h3, h4, fun _ => ⟨rfl, h1, h2, h5⟩⟩

theorem scan_begun : Tk.scan [120, 49, 61, 49, 48, 35, 97, 10, 59] = ([⟨2, 0, [120, 49], 0⟩, ⟨4, 2, [61], 0⟩, ⟨3, 3, [49, 48], 10⟩, ⟨4, 8, [59], 0⟩], 0, 0) := by rfl

theorem word_node : Tk.isWord [110, 111, 100, 101] = true := by rfl
theorem name_node : isName [110, 111, 100, 101] = false := by rfl

set_option maxHeartbeats 2000000 in
theorem begun_any (w : World) : Calls Try.prog 6 #[] w fun e w' => e = .returned (.bool true) ∧ Below w.heap.size w w' := by
  go_enter Try.func6, Try.ntmps6
  go_wp2_with fail
  refine (scan_any _ _ (by decide)).mono ?_
  rintro e w1 ⟨v, he, hown, hb⟩
  rw [show (⟨#[120, 49, 61, 49, 48, 35, 97, 10, 59]⟩ : ByteArray).data.toList = [120, 49, 61, 49, 48, 35, 97, 10, 59] from rfl, scan_begun] at he hown
  subst he
  rcases owns_toks hown with ⟨_, h⟩ | ⟨g, cap, rfl, hg1, hg2, hc1, hc2, hT⟩
  · cases h
  have t2 := (hT 2 (by decide)).2.2.2
  have t3 := (hT 3 (by decide)).2.1
  simp at t2 t3
  simp only [List.length_cons, List.length_nil, Nat.zero_add, Nat.reduceAdd]
  clear hT hown
  have hwn := word_node
  have hnn := name_node
  go_wp2_with (first
    | (go_at_call 10; refine (word_any _ _).mono ?_; rintro e w' ⟨rfl, rfl⟩)
    | (go_at_call 12; refine (name_any _ _ (by decide)).mono ?_; rintro e w' ⟨rfl, rfl⟩))
  go_ret
  exact ⟨rfl, hb.alloc hb.size _⟩

end Go.Proofs.Ytmempjdlijmfmaa
