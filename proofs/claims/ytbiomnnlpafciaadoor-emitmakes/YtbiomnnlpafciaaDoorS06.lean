import Derived.Test.YtbiomnnlpafciaaDoorS05
import Derived.Shelf.Lay
import Derived.Ground.NamesProg
set_option linter.unusedVariables false
set_option linter.unusedSimpArgs false
set_option maxHeartbeats 64000000
set_option maxRecDepth 100000
namespace Go.Proofs.YtbiomnnlpafciaaDoor
open Go.RowKit Go.IntWalk
set_option linter.unusedVariables false
set_option linter.unusedSimpArgs false
def I64 (a : Int) : Prop := -9223372036854775808 ≤ a ∧ a ≤ 9223372036854775807
theorem w64_in {a : Int} (h : I64 a) : wrap64 a = a := by unfold wrap64; unfold I64 at h; omega
end Go.Proofs.YtbiomnnlpafciaaDoor
namespace Go.Proofs.YtbiomnnlpafciaaDoor
open Go.Shelf Go.RowKit Go.Lib Go.IntWalk
set_option linter.unusedVariables false
set_option linter.unusedSimpArgs false
/-- v is a row of numbers -/
def HInts (ok : Nat → Prop) (w : World) (v : Value) (L : List Int) : Prop := ∃ C, Sl ok 1 w v L.length C ∧ ∀ i (h : i < L.length), C i = [.int .i64 L[i]]
theorem HInts.at {ok : Nat → Prop} {w : World} {v : Value} {l : List Int} (h : HInts ok w v l) :
    ∃ ao cap, v = .slice ao l.length cap ∧ l.length ≤ cap ∧ cap ≤ maxLen ∧ ∀ i (h : i < l.length), ∃ b o, ao = some ⟨b, o, none⟩ ∧ b < w.heap.size ∧ w.cell? ⟨b, o + i, none⟩ = some (.int .i64 l[i]) := by
  obtain ⟨C, ⟨ao, cap, hv, h1, h2, h3⟩, hC⟩ := h
  refine ⟨ao, cap, hv, h1, h2, fun i hi => ?_⟩
  obtain ⟨b, o, ha, hob, hb, hc⟩ := h3 (by omega)
  have := (hc i hi).2 0 (by decide)
  rw [hC i hi] at this
  exact ⟨b, o, ha, hb, by simpa using this⟩
theorem HInts.keep {ok : Nat → Prop} {w w' : World} {v : Value} {l : List Int} (h : HInts ok w v l) (h1 : w.heap.size ≤ w'.heap.size) (h2 : ∀ i, ok i → i < w.heap.size → w'.heap[i]? = w.heap[i]?) : HInts ok w' v l := by
  obtain ⟨C, h3, h4⟩ := h
  exact ⟨C, h3.keep h1 h2, h4⟩
theorem HInts.under {ok : Nat → Prop} {w w' : World} {v : Value} {l : List Int} (h : HInts ok w v l) (b : Below w.heap.size w w') : HInts ok w' v l := h.keep b.size fun i _ hl => b.block i hl
theorem HInts.wide {ok ok' : Nat → Prop} {w : World} {v : Value} {l : List Int} (h : HInts ok w v l) (hk : ∀ i, ok i → i < w.heap.size → ok' i) : HInts ok' w v l := by
  obtain ⟨C, h3, h4⟩ := h
  exact ⟨C, h3.wide hk, h4⟩
theorem Tryd.infoI : (Tryd.prog.info? 3).map (fun i => (i.zero, i.size, i.bytes)) = some (some (.int .i64 0), 1, 8) := by kernel_rfl
def kInt : Kind Int where
  ty := 3
  k := 1
  bytes := 8
  zero := .int .i64 0
  E := fun _ _ cs x => cs = [.int .i64 x]
  pos := by decide
  zs := rfl
  info := Tryd.infoI
  len := by rintro _ _ _ _ rfl; rfl
  one := by rintro _ _ _ _ rfl; simp; rfl
  keep := by rintro _ _ _ _ _ rfl _ _; rfl
  wide := by rintro _ _ _ _ _ rfl _; rfl
theorem ints_row {ok : Nat → Prop} {w : World} {v : Value} {l : List Int} (h : HRow kInt ok w v l) : HInts ok w v l := h
def ics (l : List Int) : List Value := l.map (Value.int .i64)
theorem ics_len (l : List Int) : (ics l).length = l.length := by simp [ics]
/-- a block of numbers, and what lies behind them -/
def IBlk (w : World) (g : Nat) (l : List Int) (sp : List Value) : Prop := w.heap[g]? = some (.cells (ics l ++ sp).toArray 3 (0, 0))
theorem IBlk.cell {w : World} {g : Nat} {l : List Int} {sp : List Value} (h : IBlk w g l sp) {i : Nat} (hi : i < l.length) : w.cell? ⟨g, i, none⟩ = some (.int .i64 l[i]) := by
  have := cell_of h i
  rw [this, List.getElem?_toArray, List.getElem?_append_left (by rw [ics_len]; exact hi)]
  simp [ics, hi]
end Go.Proofs.YtbiomnnlpafciaaDoor
namespace Go.Proofs.YtbiomnnlpafciaaDoor
open Go.Shelf Go.RowKit Go.Lib Go.IntWalk
set_option linter.unusedVariables false
set_option linter.unusedSimpArgs false
/-- a step of a tree -/
structure Pu where
  op : Int
  k : Int
  v : Int
  n : Int
def Pu.cs (p : Pu) : List Value := [.int .i64 p.op, .int .i64 p.k, .int .i64 p.v, .int .i64 p.n]
def HPu (ok : Nat → Prop) (w : World) (v : Value) (L : List Pu) : Prop := ∃ C, Sl ok 4 w v L.length C ∧ ∀ i (h : i < L.length), C i = (L[i]).cs
theorem HPu.at {ok : Nat → Prop} {w : World} {v : Value} {l : List Pu} (h : HPu ok w v l) :
    ∃ ao cap, v = .slice ao l.length cap ∧ l.length ≤ cap ∧ cap ≤ maxLen ∧ ∀ i (h : i < l.length), ∃ b o, ao = some ⟨b, o, none⟩ ∧ b < w.heap.size ∧ w.cell? ⟨b, o + i * 4, none⟩ = some (.int .i64 (l[i]).op) ∧ w.cell? ⟨b, o + i * 4 + 1, none⟩ = some (.int .i64 (l[i]).k) ∧ w.cell? ⟨b, o + i * 4 + 2, none⟩ = some (.int .i64 (l[i]).v) ∧ w.cell? ⟨b, o + i * 4 + 3, none⟩ = some (.int .i64 (l[i]).n) := by
  obtain ⟨C, ⟨ao, cap, hv, h1, h2, h3⟩, hC⟩ := h
  refine ⟨ao, cap, hv, h1, h2, fun i hi => ?_⟩
  obtain ⟨b, o, ha, hob, hb, hc⟩ := h3 (by omega)
  have hcc := (hc i hi).2
  rw [hC i hi] at hcc
  exact ⟨b, o, ha, hb, hcc 0 (by decide), hcc 1 (by decide), hcc 2 (by decide), hcc 3 (by decide)⟩
theorem HPu.keep {ok : Nat → Prop} {w w' : World} {v : Value} {l : List Pu} (h : HPu ok w v l) (h1 : w.heap.size ≤ w'.heap.size) (h2 : ∀ i, ok i → i < w.heap.size → w'.heap[i]? = w.heap[i]?) : HPu ok w' v l := by
  obtain ⟨C, h3, h4⟩ := h
  exact ⟨C, h3.keep h1 h2, h4⟩
theorem HPu.under {ok : Nat → Prop} {w w' : World} {v : Value} {l : List Pu} (h : HPu ok w v l) (b : Below w.heap.size w w') : HPu ok w' v l := h.keep b.size fun i _ hl => b.block i hl
/-! ### sorting, and each once -/
end Go.Proofs.YtbiomnnlpafciaaDoor
namespace Go.Proofs.YtbiomnnlpafciaaDoor
open Go.RowKit Go.IntWalk
set_option linter.unusedVariables false
set_option linter.unusedSimpArgs false
namespace Lo
/-- a step over cells -/
structure Sp where
  op : Int
  k : Int
  n : Int
  tgt : Int
  F : List Pu
  E : List Pu
/-- loops -/
structure Lp where
  c : Int
  P : List Int
  G : List Int
  S : List Sp
def hasN (c f n : Int) : Bool := decide (0 ≤ f) && decide (f ≤ c - n)
def tk (op : Int) : Int := if op = 5 then 1 else if op = 6 ∨ op = 8 then 2 else if op = 7 then 3 else 0
def pushOK (c n : Int) (p : Pu) : Bool :=
  if p.op = 1 ∨ p.op = 7 then true
  else if p.op = 2 then hasN c p.v 1
  else if p.op = 3 then hasN c p.v n
  else if p.op = 4 then decide (-1000000000000000000 ≤ p.n) && decide (p.n ≤ 1000000000000000000)
  else if p.op = 5 then (Kd.opT p.k).2.2 == 1
  else if p.op = 6 then (Kd.opT p.k).2.2 == 2
  else if p.op = 8 then decide (1 ≤ p.n) && hasN c p.v p.n
  else false
/-- from a height on: does a tree come of the steps? -/
def hgt (c n : Int) : Int → List Pu → Bool
  | h, [] => h == 1
  | h, p :: r => if h - tk p.op < 0 ∨ pushOK c n p = false then false else hgt c n (h - tk p.op + 1) r
def treeOK (c n : Int) (E : List Pu) : Bool := decide (E.length ≤ 24) && hgt c n 0 E
def folds (s : Sp) : Bool := s.op == 3 || s.op == 4
def turns (s : Sp) : Int := if s.op = 1 then 1 else s.n
def made (s : Sp) : Int := if s.op = 3 then 1 else turns s
def bars (c : Int) (s : Sp) : Bool :=
  if s.op < 1 ∨ 4 < s.op then true
  else if turns s < 1 ∨ 300 < turns s then true
  else if hasN c s.tgt (made s) = false ∨ treeOK c (turns s) s.E = false then true
  else folds s && !(treeOK c 1 s.F && (Kd.opT s.k).2.2 == 2)
/-- where the first is of which it is so, or -1 -/
def idx {α : Type} (p : α → Bool) : Nat → List α → Int
  | _, [] => -1
  | i, x :: r => if p x = true then (i : Int) else idx p (i + 1) r
def fault (L : Lp) : Int × Int :=
  if L.c < 1 ∨ 6000 < L.c then (13, -1)
  else if 6000 < L.P.length ∨ 120000 < L.G.length ∨ 1200 < L.S.length then (7, -1)
  else if (L.P.any fun x => !hasN L.c x 1) ∨ (L.G.any fun x => !hasN L.c x 1) then (16, -1)
  else if 0 ≤ idx (bars L.c) 0 L.S then (4, idx (bars L.c) 0 L.S) else (0, 0)
/-- cells -/
def rd (M : List Int) (i : Int) : Int := M.getD i.toNat 0
def stepV (M : List Int) (p : Pu) (t : List Int) (k : Int) : Int :=
  if p.op = 2 then rd M p.v
  else if p.op = 3 then rd M (p.v + k)
  else if p.op = 4 then wrap64 (k + p.n)
  else if p.op = 5 then apT p.k (t.getD 0 0) 0
  else if p.op = 6 then apT p.k (t.getD 0 0) (t.getD 1 0)
  else if p.op = 7 then (if t.getD 0 0 ≠ 0 then t.getD 1 0 else t.getD 2 0)
  else if p.op = 8 then (if t.getD 0 0 < 0 ∨ p.n ≤ t.getD 0 0 then t.getD 1 0 else rd M (p.v + t.getD 0 0))
  else p.n
def rest (st : List Int) (p : Pu) : Nat := st.length - (tk p.op).toNat
def stp (M : List Int) (k : Int) (st : List Int) (p : Pu) : List Int := st.take (rest st p) ++ [stepV M p (st.drop (rest st p)) k]
/-- the stack behind so many steps -/
def stk (M : List Int) (k : Int) (E : List Pu) (i : Nat) : List Int := (E.take i).foldl (stp M k) []
def tree (M : List Int) (k : Int) (E : List Pu) : Int := (stk M k E E.length).getD 0 0
theorem stk_zero (M : List Int) (k : Int) (E : List Pu) : stk M k E 0 = [] := by simp [stk]
theorem stk_succ (M : List Int) (k : Int) (E : List Pu) {i : Nat} (h : i < E.length) : stk M k E (i + 1) = stp M k (stk M k E i) E[i] := by
  unfold stk
  rw [List.take_succ_eq_append_getElem h, List.foldl_append]
  rfl
theorem tk_nonneg (op : Int) : 0 ≤ tk op ∧ tk op ≤ 3 := by unfold tk; repeat' split
                                                           all_goals omega
/-- at each step there is what it takes, and it may stand there -/
structure Fit (c n : Int) (E : List Pu) : Prop where
  len : E.length ≤ 24
  pos : 0 < E.length
  at' : ∀ (M : List Int) (k : Int) (i : Nat) (h : i < E.length), tk (E[i]).op ≤ (stk M k E i).length ∧ pushOK c n E[i] = true ∧ (stk M k E i).length ≤ i
  fin : ∀ (M : List Int) (k : Int), (stk M k E E.length).length = 1
theorem hgt_fit (c n : Int) (E : List Pu) (M : List Int) (k : Int) : ∀ (m i : Nat), m + i = E.length → hgt c n (stk M k E i).length (E.drop i) = true → (stk M k E i).length ≤ i →
    (∀ j (h : j < E.length), i ≤ j → tk (E[j]).op ≤ (stk M k E j).length ∧ pushOK c n E[j] = true ∧ (stk M k E j).length ≤ j) ∧ (stk M k E E.length).length = 1
  | 0, i, e, h, hl => by
    have : i = E.length := by omega
    subst this
    rw [List.drop_length] at h
    refine ⟨fun j hj hi => by omega, ?_⟩
    simp only [hgt, beq_iff_eq] at h
    omega
  | m + 1, i, e, h, hl => by
    have hi : i < E.length := by omega
    rw [List.drop_eq_getElem_cons hi, hgt] at h
    split at h
    · cases h
    rename_i hc
    have h1 : tk (E[i]).op ≤ (stk M k E i).length := by omega
    have h2 : pushOK c n E[i] = true := by
      cases hh : pushOK c n E[i]
      · exact absurd (Or.inr hh) hc
      · rfl
    have h3 := tk_nonneg (E[i]).op
    have hs : (stk M k E (i + 1)).length = (stk M k E i).length - (tk (E[i]).op).toNat + 1 := by
      rw [stk_succ M k E hi]
      unfold stp rest
      rw [List.length_append, List.length_take, List.length_singleton]
      omega
    have hs2 : ((stk M k E (i + 1)).length : Int) = (stk M k E i).length - tk (E[i]).op + 1 := by omega
    rw [← hs2] at h
    have ih := hgt_fit c n E M k m (i + 1) (by omega) h (by omega)
    refine ⟨fun j hj hij => ?_, ih.2⟩
    by_cases he : i = j
    · subst he
      exact ⟨h1, h2, hl⟩
    · exact ih.1 j hj (by omega)
theorem fit_of {c n : Int} {E : List Pu} (h : treeOK c n E = true) : Fit c n E := by
  unfold treeOK at h
  rw [Bool.and_eq_true, decide_eq_true_iff] at h
  have hp : 0 < E.length := by
    cases E with
    | nil => simp [hgt] at h
    | cons => simp
  exact ⟨h.1, hp, fun M k i hi => (hgt_fit c n E M k E.length 0 (by omega) (by rw [stk_zero]; exact h.2) (by rw [stk_zero]; simp)).1 i hi (Nat.zero_le _),
    fun M k => (hgt_fit c n E M k E.length 0 (by omega) (by rw [stk_zero]; exact h.2) (by rw [stk_zero]; simp)).2⟩
def PW (E : List Pu) : Prop := ∀ p ∈ E, I64 p.n
/-- what is given lies where it is put -/
def putL : List Int → List Int → List Int → List Int
  | M, [], _ => M
  | M, _ :: _, [] => M
  | M, p :: ps, x :: xs => putL (M.set p.toNat x) ps xs
/-- each of so many cells from the i-th on -/
def eachL (tgt : Int) (E : List Pu) : Nat → Nat → List Int → List Int
  | 0, _, M => M
  | m + 1, i, M => eachL tgt E m (i + 1) (M.set (tgt + i).toNat (tree M i E))
def foldL (K : Int) (E : List Pu) (M : List Int) : Nat → Nat → Int → Int
  | 0, _, v => v
  | m + 1, i, v => foldL K E M m (i + 1) (apT K v (tree M i E))
def scanL (K tgt : Int) (E : List Pu) : Nat → Nat → Int → List Int → List Int
  | 0, _, _, M => M
  | m + 1, i, v, M => scanL K tgt E m (i + 1) (apT K v (tree M i E)) (M.set (tgt + i).toNat (apT K v (tree M i E)))
def doS (M : List Int) (s : Sp) : List Int :=
  if s.op = 1 then M.set s.tgt.toNat (tree M 0 s.E)
  else if s.op = 2 then eachL s.tgt s.E s.n.toNat 0 M
  else if s.op = 3 then M.set s.tgt.toNat (foldL s.k s.E M s.n.toNat 0 (tree M 0 s.F))
  else scanL s.k s.tgt s.E s.n.toNat 0 (tree M 0 s.F) M
def row (L : Lp) (M : List Int) (inp : List Int) : List Int := L.S.foldl doS (putL M L.P inp)
def SW (s : Sp) : Prop := PW s.F ∧ PW s.E
/-- a step that may be done -/
structure Ok (c : Int) (s : Sp) : Prop where
  op : 1 ≤ s.op ∧ s.op ≤ 4
  n : s.op ≠ 1 → 1 ≤ s.n ∧ s.n ≤ 300
  tgt : 0 ≤ s.tgt ∧ s.tgt + made s ≤ c
  E : Fit c (turns s) s.E
  F : s.op = 3 ∨ s.op = 4 → Fit c 1 s.F
theorem ok_of {c : Int} {s : Sp} (h : bars c s = false) : Ok c s := by
  unfold bars at h
  split at h
  · cases h
  rename_i h1
  split at h
  · cases h
  rename_i h2
  split at h
  · cases h
  rename_i h3
  have ht : hasN c s.tgt (made s) = true := by
    cases hh : hasN c s.tgt (made s)
    · exact absurd (Or.inl hh) h3
    · rfl
  have hE : treeOK c (turns s) s.E = true := by
    cases hh : treeOK c (turns s) s.E
    · exact absurd (Or.inr hh) h3
    · rfl
  unfold hasN at ht
  rw [Bool.and_eq_true, decide_eq_true_iff, decide_eq_true_iff] at ht
  refine ⟨by omega, fun hn => ?_, ⟨ht.1, by omega⟩, fit_of hE, fun hf => ?_⟩
  · unfold turns at h2
    rw [if_neg hn] at h2
    omega
  · have : folds s = true := by unfold folds; rcases hf with h | h <;> simp [h]
    rw [this, Bool.true_and] at h
    have h4 : (treeOK c 1 s.F && (Kd.opT s.k).2.2 == 2) = true := by simpa using h
    rw [Bool.and_eq_true] at h4
    exact fit_of h4.1
theorem idx_neg {α : Type} (p : α → Bool) : ∀ (l : List α) (i : Nat), ¬ 0 ≤ idx p i l → ∀ x ∈ l, p x = false
  | [], i, _, x, hx => by cases hx
  | y :: r, i, h, x, hx => by
    unfold idx at h
    cases hy : p y with
    | true => rw [hy] at h; simp at h
    | false =>
      rw [hy] at h
      rw [if_neg (by decide)] at h
      rcases List.mem_cons.1 hx with rfl | hx
      · exact hy
      · exact idx_neg p r (i + 1) h x hx
/-- loops that may be run -/
structure Good (L : Lp) : Prop where
  c : 1 ≤ L.c ∧ L.c ≤ 6000
  P : ∀ x ∈ L.P, 0 ≤ x ∧ x < L.c
  G : ∀ x ∈ L.G, 0 ≤ x ∧ x < L.c
  S : ∀ s ∈ L.S, Ok L.c s
theorem good_of {L : Lp} (h : (fault L).1 = 0) : Good L := by
  unfold fault at h
  split at h
  · cases h
  rename_i h1
  split at h
  · cases h
  split at h
  · cases h
  rename_i h2
  split at h
  · cases h
  rename_i h3
  have hh : ∀ (l : List Int), (l.any fun x => !hasN L.c x 1) = false → ∀ x ∈ l, 0 ≤ x ∧ x < L.c := fun l hl x hx => by
    rw [List.any_eq_false] at hl
    have := hl x hx
    unfold hasN at this
    simp at this
    omega
  refine ⟨by omega, hh _ ?_, hh _ ?_, fun s hs => ok_of (idx_neg _ _ _ h3 s hs)⟩
  · cases hb : (L.P.any fun x => !hasN L.c x 1)
    · rfl
    · exact absurd (Or.inl hb) h2
  · cases hb : (L.G.any fun x => !hasN L.c x 1)
    · rfl
    · exact absurd (Or.inr hb) h2
end Lo
end Go.Proofs.YtbiomnnlpafciaaDoor
