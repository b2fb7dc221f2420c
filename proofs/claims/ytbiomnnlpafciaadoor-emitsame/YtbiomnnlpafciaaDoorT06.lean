import Derived.Test.YtbiomnnlpafciaaDoorT05
import Derived.WalkKit
import Derived.WalkSpells
import Derived.IntWalk
import Derived.Deep.Cut
import Derived.Deep.LoopGhost
import Derived.Laws.Cover1
import Derived.Lib.Hide
set_option linter.unusedVariables false
set_option linter.unusedSimpArgs false
set_option maxHeartbeats 64000000
set_option maxRecDepth 100000
namespace Go.Proofs.YtbiomnnlpafciaaDoor
open Go.RowKit Go.IntWalk
set_option linter.unusedVariables false
set_option linter.unusedSimpArgs false
theorem tmod_I64 {a b : Int} (ha : I64 a) : I64 (a.tmod b) := by
  have h := Int.natAbs_tmod a b
  have h2 := Nat.mod_le a.natAbs b.natAbs
  have h3 : 0 ≤ a → 0 ≤ a.tmod b := fun h => Int.tmod_nonneg b h
  unfold I64 at *
  by_cases h0 : 0 ≤ a
  · have := h3 h0
    omega
  · by_cases h4 : a = -9223372036854775808
    · subst h4
      have e : (-9223372036854775808 : Int).tmod b = -((9223372036854775808 : Int).tmod b) := by rw [← Int.neg_tmod]
      have := Int.tmod_nonneg b (show (0 : Int) ≤ 9223372036854775808 by omega)
      omega
    · omega
theorem tr_I64 (b : Bool) : I64 (tr b) := by unfold tr I64; split <;> omega
theorem ite_I64 {c : Prop} [Decidable c] {x y : Int} (hx : I64 x) (hy : I64 y) : I64 (if c then x else y) := by
  by_cases h : c
  · rw [if_pos h]; exact hx
  · rw [if_neg h]; exact hy
theorem apT_I64 {k a b : Int} (ha : I64 a) (hb : I64 b) : I64 (apT k a b) := by
  have h0 : I64 0 := by unfold I64; omega
  have hmin : I64 (min a b) := by unfold I64 at *; omega
  have hmax : I64 (max a b) := by unfold I64 at *; omega
  have hm : I64 (a.tmod b) := tmod_I64 ha
  unfold apT
  repeat' (with_reducible apply ite_I64)
  all_goals first | exact h0 | assumption | apply tr_I64 | apply w64_I64
namespace Lo
/-- a step over cells -/
structure Sp where
  op : Int
  k : Int
  n : Int
  tgt : Int
  F : List Pu
  E : List Pu
/-- loops -/
structure Lp where
  c : Int
  P : List Int
  G : List Int
  S : List Sp
def hasN (c f n : Int) : Bool := decide (0 ≤ f) && decide (f ≤ c - n)
def tk (op : Int) : Int := if op = 5 then 1 else if op = 6 ∨ op = 8 then 2 else if op = 7 then 3 else 0
def pushOK (c n : Int) (p : Pu) : Bool :=
  if p.op = 1 ∨ p.op = 7 then true
  else if p.op = 2 then hasN c p.v 1
  else if p.op = 3 then hasN c p.v n
  else if p.op = 4 then decide (-1000000000000000000 ≤ p.n) && decide (p.n ≤ 1000000000000000000)
  else if p.op = 5 then (Kd.opT p.k).2.2 == 1
  else if p.op = 6 then (Kd.opT p.k).2.2 == 2
  else if p.op = 8 then decide (1 ≤ p.n) && hasN c p.v p.n
  else false
/-- from a height on: does a tree come of the steps? -/
def hgt (c n : Int) : Int → List Pu → Bool
  | h, [] => h == 1
  | h, p :: r => if h - tk p.op < 0 ∨ pushOK c n p = false then false else hgt c n (h - tk p.op + 1) r
def treeOK (c n : Int) (E : List Pu) : Bool := decide (E.length ≤ 24) && hgt c n 0 E
def folds (s : Sp) : Bool := s.op == 3 || s.op == 4
def turns (s : Sp) : Int := if s.op = 1 then 1 else s.n
def made (s : Sp) : Int := if s.op = 3 then 1 else turns s
def bars (c : Int) (s : Sp) : Bool :=
  if s.op < 1 ∨ 4 < s.op then true
  else if turns s < 1 ∨ 300 < turns s then true
  else if hasN c s.tgt (made s) = false ∨ treeOK c (turns s) s.E = false then true
  else folds s && !(treeOK c 1 s.F && (Kd.opT s.k).2.2 == 2)
/-- where the first is of which it is so, or -1 -/
def idx {α : Type} (p : α → Bool) : Nat → List α → Int
  | _, [] => -1
  | i, x :: r => if p x = true then (i : Int) else idx p (i + 1) r
def fault (L : Lp) : Int × Int :=
  if L.c < 1 ∨ 6000 < L.c then (13, -1)
  else if 6000 < L.P.length ∨ 120000 < L.G.length ∨ 1200 < L.S.length then (7, -1)
  else if (L.P.any fun x => !hasN L.c x 1) ∨ (L.G.any fun x => !hasN L.c x 1) then (16, -1)
  else if 0 ≤ idx (bars L.c) 0 L.S then (4, idx (bars L.c) 0 L.S) else (0, 0)
/-- cells -/
def rd (M : List Int) (i : Int) : Int := M.getD i.toNat 0
def stepV (M : List Int) (p : Pu) (t : List Int) (k : Int) : Int :=
  if p.op = 2 then rd M p.v
  else if p.op = 3 then rd M (p.v + k)
  else if p.op = 4 then wrap64 (k + p.n)
  else if p.op = 5 then apT p.k (t.getD 0 0) 0
  else if p.op = 6 then apT p.k (t.getD 0 0) (t.getD 1 0)
  else if p.op = 7 then (if t.getD 0 0 ≠ 0 then t.getD 1 0 else t.getD 2 0)
  else if p.op = 8 then (if t.getD 0 0 < 0 ∨ p.n ≤ t.getD 0 0 then t.getD 1 0 else rd M (p.v + t.getD 0 0))
  else p.n
def rest (st : List Int) (p : Pu) : Nat := st.length - (tk p.op).toNat
def stp (M : List Int) (k : Int) (st : List Int) (p : Pu) : List Int := st.take (rest st p) ++ [stepV M p (st.drop (rest st p)) k]
/-- the stack behind so many steps -/
def stk (M : List Int) (k : Int) (E : List Pu) (i : Nat) : List Int := (E.take i).foldl (stp M k) []
def tree (M : List Int) (k : Int) (E : List Pu) : Int := (stk M k E E.length).getD 0 0
theorem stk_zero (M : List Int) (k : Int) (E : List Pu) : stk M k E 0 = [] := by simp [stk]
theorem stk_succ (M : List Int) (k : Int) (E : List Pu) {i : Nat} (h : i < E.length) : stk M k E (i + 1) = stp M k (stk M k E i) E[i] := by
  unfold stk
  rw [List.take_succ_eq_append_getElem h, List.foldl_append]
  rfl
theorem tk_nonneg (op : Int) : 0 ≤ tk op ∧ tk op ≤ 3 := by unfold tk; repeat' split
                                                           all_goals omega
/-- at each step there is what it takes, and it may stand there -/
structure Fit (c n : Int) (E : List Pu) : Prop where
  len : E.length ≤ 24
  pos : 0 < E.length
  at' : ∀ (M : List Int) (k : Int) (i : Nat) (h : i < E.length), tk (E[i]).op ≤ (stk M k E i).length ∧ pushOK c n E[i] = true ∧ (stk M k E i).length ≤ i
  fin : ∀ (M : List Int) (k : Int), (stk M k E E.length).length = 1
theorem hgt_fit (c n : Int) (E : List Pu) (M : List Int) (k : Int) : ∀ (m i : Nat), m + i = E.length → hgt c n (stk M k E i).length (E.drop i) = true → (stk M k E i).length ≤ i →
    (∀ j (h : j < E.length), i ≤ j → tk (E[j]).op ≤ (stk M k E j).length ∧ pushOK c n E[j] = true ∧ (stk M k E j).length ≤ j) ∧ (stk M k E E.length).length = 1
  | 0, i, e, h, hl => by
    have : i = E.length := by omega
    subst this
    rw [List.drop_length] at h
    refine ⟨fun j hj hi => by omega, ?_⟩
    simp only [hgt, beq_iff_eq] at h
    omega
  | m + 1, i, e, h, hl => by
    have hi : i < E.length := by omega
    rw [List.drop_eq_getElem_cons hi, hgt] at h
    split at h
    · cases h
    rename_i hc
    have h1 : tk (E[i]).op ≤ (stk M k E i).length := by omega
    have h2 : pushOK c n E[i] = true := by
      cases hh : pushOK c n E[i]
      · exact absurd (Or.inr hh) hc
      · rfl
    have h3 := tk_nonneg (E[i]).op
    have hs : (stk M k E (i + 1)).length = (stk M k E i).length - (tk (E[i]).op).toNat + 1 := by
      rw [stk_succ M k E hi]
      unfold stp rest
      rw [List.length_append, List.length_take, List.length_singleton]
      omega
    have hs2 : ((stk M k E (i + 1)).length : Int) = (stk M k E i).length - tk (E[i]).op + 1 := by omega
    rw [← hs2] at h
    have ih := hgt_fit c n E M k m (i + 1) (by omega) h (by omega)
    refine ⟨fun j hj hij => ?_, ih.2⟩
    by_cases he : i = j
    · subst he
      exact ⟨h1, h2, hl⟩
    · exact ih.1 j hj (by omega)
theorem fit_of {c n : Int} {E : List Pu} (h : treeOK c n E = true) : Fit c n E := by
  unfold treeOK at h
  rw [Bool.and_eq_true, decide_eq_true_iff] at h
  have hp : 0 < E.length := by
    cases E with
    | nil => simp [hgt] at h
    | cons => simp
  exact ⟨h.1, hp, fun M k i hi => (hgt_fit c n E M k E.length 0 (by omega) (by rw [stk_zero]; exact h.2) (by rw [stk_zero]; simp)).1 i hi (Nat.zero_le _),
    fun M k => (hgt_fit c n E M k E.length 0 (by omega) (by rw [stk_zero]; exact h.2) (by rw [stk_zero]; simp)).2⟩
/-- what lies in cells is an int64 -/
def Wd (M : List Int) : Prop := ∀ x ∈ M, I64 x
theorem Wd.get {M : List Int} (h : Wd M) (i : Nat) : I64 (M.getD i 0) := by
  rw [List.getD_eq_getElem?_getD]
  by_cases hi : i < M.length
  · rw [List.getElem?_eq_getElem hi]
    exact h _ (List.getElem_mem hi)
  · rw [List.getElem?_eq_none (by omega)]
    show I64 0
    unfold I64; omega
def PW (E : List Pu) : Prop := ∀ p ∈ E, I64 p.n
theorem stepV_wide {M : List Int} (hM : Wd M) {p : Pu} (hp : I64 p.n) {t : List Int} (ht : Wd t) (k : Int) : I64 (stepV M p t k) := by
  have h0 : I64 0 := by unfold I64; omega
  unfold stepV rd
  repeat' (with_reducible apply ite_I64)
  all_goals first | exact hM.get _ | exact w64_I64 _ | exact apT_I64 (ht.get _) h0 | exact apT_I64 (ht.get _) (ht.get _) | exact ht.get _ | exact hp
theorem stp_wide {M : List Int} (hM : Wd M) {p : Pu} (hp : I64 p.n) {st : List Int} (hs : Wd st) (k : Int) : Wd (stp M k st p) := by
  intro x hx
  unfold stp at hx
  rw [List.mem_append, List.mem_singleton] at hx
  rcases hx with h | rfl
  · exact hs x (List.mem_of_mem_take h)
  · exact stepV_wide hM hp (fun y hy => hs y (List.mem_of_mem_drop hy)) k
theorem stk_wide {M : List Int} (hM : Wd M) {E : List Pu} (hE : PW E) (k : Int) : ∀ i, i ≤ E.length → Wd (stk M k E i)
  | 0, _ => by rw [stk_zero]; intro x hx; cases hx
  | i + 1, h => by
    rw [stk_succ M k E (by omega)]
    exact stp_wide hM (hE _ (List.getElem_mem (by omega))) (stk_wide hM hE k i (by omega)) k
theorem tree_wide {M : List Int} (hM : Wd M) {E : List Pu} (hE : PW E) (k : Int) : I64 (tree M k E) := (stk_wide hM hE k _ (Nat.le_refl _)).get 0
theorem Wd.set {M : List Int} (h : Wd M) {x : Int} (hx : I64 x) (i : Nat) : Wd (M.set i x) := by
  intro y hy
  rcases List.mem_or_eq_of_mem_set hy with h1 | rfl
  · exact h y h1
  · exact hx
/-- what is given lies where it is put -/
def putL : List Int → List Int → List Int → List Int
  | M, [], _ => M
  | M, _ :: _, [] => M
  | M, p :: ps, x :: xs => putL (M.set p.toNat x) ps xs
/-- each of so many cells from the i-th on -/
def eachL (tgt : Int) (E : List Pu) : Nat → Nat → List Int → List Int
  | 0, _, M => M
  | m + 1, i, M => eachL tgt E m (i + 1) (M.set (tgt + i).toNat (tree M i E))
def foldL (K : Int) (E : List Pu) (M : List Int) : Nat → Nat → Int → Int
  | 0, _, v => v
  | m + 1, i, v => foldL K E M m (i + 1) (apT K v (tree M i E))
def scanL (K tgt : Int) (E : List Pu) : Nat → Nat → Int → List Int → List Int
  | 0, _, _, M => M
  | m + 1, i, v, M => scanL K tgt E m (i + 1) (apT K v (tree M i E)) (M.set (tgt + i).toNat (apT K v (tree M i E)))
def doS (M : List Int) (s : Sp) : List Int :=
  if s.op = 1 then M.set s.tgt.toNat (tree M 0 s.E)
  else if s.op = 2 then eachL s.tgt s.E s.n.toNat 0 M
  else if s.op = 3 then M.set s.tgt.toNat (foldL s.k s.E M s.n.toNat 0 (tree M 0 s.F))
  else scanL s.k s.tgt s.E s.n.toNat 0 (tree M 0 s.F) M
def row (L : Lp) (M : List Int) (inp : List Int) : List Int := L.S.foldl doS (putL M L.P inp)
def told (L : Lp) (M : List Int) : List Int := L.G.map fun g => rd M g
theorem putL_len : ∀ (P X M : List Int), (putL M P X).length = M.length
  | [], _, _ => by simp [putL]
  | _ :: _, [], _ => by simp [putL]
  | p :: ps, x :: xs, M => by rw [putL, putL_len]; simp
theorem putL_wide : ∀ (P X M : List Int), Wd M → Wd X → Wd (putL M P X)
  | [], _, _, h, _ => by simpa [putL] using h
  | _ :: _, [], _, h, _ => by simpa [putL] using h
  | p :: ps, x :: xs, M, h, hx => by
    rw [putL]
    exact putL_wide ps xs _ (h.set (hx x (by simp)) _) fun y hy => hx y (by simp [hy])
theorem eachL_len (tgt : Int) (E : List Pu) : ∀ (m i : Nat) (M : List Int), (eachL tgt E m i M).length = M.length
  | 0, _, _ => by simp [eachL]
  | m + 1, i, M => by rw [eachL, eachL_len]; simp
theorem scanL_len (K tgt : Int) (E : List Pu) : ∀ (m i : Nat) (v : Int) (M : List Int), (scanL K tgt E m i v M).length = M.length
  | 0, _, _, _ => by simp [scanL]
  | m + 1, i, v, M => by rw [scanL, scanL_len]; simp
theorem doS_len (M : List Int) (s : Sp) : (doS M s).length = M.length := by
  unfold doS
  repeat' split
  · simp
  · exact eachL_len ..
  · simp
  · exact scanL_len ..
theorem eachL_wide {tgt : Int} {E : List Pu} (hE : PW E) : ∀ (m i : Nat) (M : List Int), Wd M → Wd (eachL tgt E m i M)
  | 0, _, _, h => by simpa [eachL] using h
  | m + 1, i, M, h => by rw [eachL]; exact eachL_wide hE m (i + 1) _ (h.set (tree_wide h hE _) _)
theorem foldL_wide {K : Int} {E : List Pu} (hE : PW E) {M : List Int} (hM : Wd M) : ∀ (m i : Nat) (v : Int), I64 v → I64 (foldL K E M m i v)
  | 0, _, _, h => by simpa [foldL] using h
  | m + 1, i, v, h => by rw [foldL]; exact foldL_wide hE hM m (i + 1) _ (apT_I64 h (tree_wide hM hE _))
theorem scanL_wide {K tgt : Int} {E : List Pu} (hE : PW E) : ∀ (m i : Nat) (v : Int) (M : List Int), I64 v → Wd M → Wd (scanL K tgt E m i v M)
  | 0, _, _, _, _, h => by simpa [scanL] using h
  | m + 1, i, v, M, hv, h => by
    rw [scanL]
    have h1 := apT_I64 (k := K) hv (tree_wide h hE (i : Int))
    exact scanL_wide hE m (i + 1) _ _ h1 (h.set h1 _)
def SW (s : Sp) : Prop := PW s.F ∧ PW s.E
theorem doS_wide {M : List Int} (hM : Wd M) {s : Sp} (hs : SW s) : Wd (doS M s) := by
  unfold doS
  repeat' split
  · exact hM.set (tree_wide hM hs.2 _) _
  · exact eachL_wide hs.2 _ _ _ hM
  · exact hM.set (foldL_wide hs.2 hM _ _ _ (tree_wide hM hs.1 _)) _
  · exact scanL_wide hs.2 _ _ _ _ (tree_wide hM hs.1 _) hM
/-- a step that may be done -/
structure Ok (c : Int) (s : Sp) : Prop where
  op : 1 ≤ s.op ∧ s.op ≤ 4
  n : s.op ≠ 1 → 1 ≤ s.n ∧ s.n ≤ 300
  tgt : 0 ≤ s.tgt ∧ s.tgt + made s ≤ c
  E : Fit c (turns s) s.E
  F : s.op = 3 ∨ s.op = 4 → Fit c 1 s.F
theorem ok_of {c : Int} {s : Sp} (h : bars c s = false) : Ok c s := by
  unfold bars at h
  split at h
  · cases h
  rename_i h1
  split at h
  · cases h
  rename_i h2
  split at h
  · cases h
  rename_i h3
  have ht : hasN c s.tgt (made s) = true := by
    cases hh : hasN c s.tgt (made s)
    · exact absurd (Or.inl hh) h3
    · rfl
  have hE : treeOK c (turns s) s.E = true := by
    cases hh : treeOK c (turns s) s.E
    · exact absurd (Or.inr hh) h3
    · rfl
  unfold hasN at ht
  rw [Bool.and_eq_true, decide_eq_true_iff, decide_eq_true_iff] at ht
  refine ⟨by omega, fun hn => ?_, ⟨ht.1, by omega⟩, fit_of hE, fun hf => ?_⟩
  · unfold turns at h2
    rw [if_neg hn] at h2
    omega
  · have : folds s = true := by unfold folds; rcases hf with h | h <;> simp [h]
    rw [this, Bool.true_and] at h
    have h4 : (treeOK c 1 s.F && (Kd.opT s.k).2.2 == 2) = true := by simpa using h
    rw [Bool.and_eq_true] at h4
    exact fit_of h4.1
theorem idx_neg {α : Type} (p : α → Bool) : ∀ (l : List α) (i : Nat), ¬ 0 ≤ idx p i l → ∀ x ∈ l, p x = false
  | [], i, _, x, hx => by cases hx
  | y :: r, i, h, x, hx => by
    unfold idx at h
    cases hy : p y with
    | true => rw [hy] at h; simp at h
    | false =>
      rw [hy] at h
      rw [if_neg (by decide)] at h
      rcases List.mem_cons.1 hx with rfl | hx
      · exact hy
      · exact idx_neg p r (i + 1) h x hx
/-- loops that may be run -/
structure Good (L : Lp) : Prop where
  c : 1 ≤ L.c ∧ L.c ≤ 6000
  P : ∀ x ∈ L.P, 0 ≤ x ∧ x < L.c
  G : ∀ x ∈ L.G, 0 ≤ x ∧ x < L.c
  S : ∀ s ∈ L.S, Ok L.c s
theorem good_of {L : Lp} (h : (fault L).1 = 0) : Good L := by
  unfold fault at h
  split at h
  · cases h
  rename_i h1
  split at h
  · cases h
  split at h
  · cases h
  rename_i h2
  split at h
  · cases h
  rename_i h3
  have hh : ∀ (l : List Int), (l.any fun x => !hasN L.c x 1) = false → ∀ x ∈ l, 0 ≤ x ∧ x < L.c := fun l hl x hx => by
    rw [List.any_eq_false] at hl
    have := hl x hx
    unfold hasN at this
    simp at this
    omega
  refine ⟨by omega, hh _ ?_, hh _ ?_, fun s hs => ok_of (idx_neg _ _ _ h3 s hs)⟩
  · cases hb : (L.P.any fun x => !hasN L.c x 1)
    · rfl
    · exact absurd (Or.inl hb) h2
  · cases hb : (L.G.any fun x => !hasN L.c x 1)
    · rfl
    · exact absurd (Or.inr hb) h2
end Lo
end Go.Proofs.YtbiomnnlpafciaaDoor
namespace Go.Proofs.YtbiomnnlpafciaaDoor
open Go.RowKit Go.IntWalk
set_option linter.unusedVariables false
set_option linter.unusedSimpArgs false
namespace Cd
/-- an instruction: six numbers -/
structure In where
  op : Int
  k : Int
  r : Int
  a : Int
  b : Int
  n : Int
/-- is it the head of a loop, or its end? (the codes of the two Ops are letters here) -/
def step (L E : Int) (o : Option Int) (x : In) : Option (Int × Option Int) :=
  match o with
  | none => if x.op = E then none else if x.op = L then (if 1 ≤ x.n ∧ x.n ≤ 300 then some (1, some x.n) else none) else some (1, none)
  | some m => if x.op = E then some (m, none) else if x.op = L then none else some (m, some m)
/-- what code costs from here on, with a loop open or not -/
def go (L E : Int) : Option Int → List In → Option Int
  | none, [] => some 0
  | some _, [] => none
  | o, x :: r => (step L E o x).bind fun q => (go L E q.2 r).map fun y => q.1 + y
def cost (L E : Int) (l : List In) : Int := (go L E none l).getD 0
theorem go_cons {L E : Int} (o : Option Int) (x : In) (r : List In) : go L E o (x :: r) = (step L E o x).bind fun q => (go L E q.2 r).map fun y => q.1 + y := by cases o <;> rfl
theorem step_pos {L E : Int} {o : Option Int} (ho : ∀ m, o = some m → 1 ≤ m) {x : In} {q : Int × Option Int} (h : step L E o x = some q) : 1 ≤ q.1 ∧ ∀ m, q.2 = some m → 1 ≤ m := by
  unfold step at h
  cases o with
  | none =>
    dsimp only at h
    split at h
    · cases h
    · split at h
      · split at h
        · rename_i h3
          injection h with h
          subst h
          exact ⟨Int.le_refl _, fun m e => by injection e with e; omega⟩
        · cases h
      · injection h with h
        subst h
        exact ⟨Int.le_refl _, fun m e => by cases e⟩
  | some m =>
    have hm := ho m rfl
    dsimp only at h
    split at h
    · injection h with h
      subst h
      exact ⟨hm, fun m e => by cases e⟩
    · split at h
      · cases h
      · injection h with h
        subst h
        exact ⟨hm, fun m' e => by injection e with e; omega⟩
theorem go_nonneg {L E : Int} : ∀ (l : List In) (o : Option Int), (∀ m, o = some m → 1 ≤ m) → ∀ {x : Int}, go L E o l = some x → 0 ≤ x
  | [], none, _, x, h => by
    unfold go at h
    injection h with h
    omega
  | [], some _, _, x, h => by
    unfold go at h
    cases h
  | a :: r, o, ho, x, h => by
    rw [go_cons] at h
    cases hs : step L E o a with
    | none => rw [hs] at h; cases h
    | some q =>
      rw [hs] at h
      simp only [Option.bind_some] at h
      obtain ⟨p1, p2⟩ := step_pos ho hs
      cases hg : go L E q.2 r with
      | none => rw [hg] at h; cases h
      | some y =>
        rw [hg] at h
        simp only [Option.map_some] at h
        injection h with h
        have := go_nonneg r q.2 p2 hg
        omega
/-- code that may be run, and other code behind it -/
theorem go_append {L E : Int} : ∀ (a b : List In) (o : Option Int) {x : Int}, go L E o a = some x → go L E o (a ++ b) = (go L E none b).map fun y => x + y
  | [], b, none, x, h => by
    unfold go at h
    injection h with h
    subst h
    simp
  | [], b, some _, x, h => by
    unfold go at h
    cases h
  | i :: r, b, o, x, h => by
    rw [go_cons] at h
    rw [List.cons_append]
    cases hs : step L E o i with
    | none => rw [hs] at h; cases h
    | some q =>
      rw [hs] at h
      simp only [Option.bind_some] at h
      cases hg : go L E q.2 r with
      | none => rw [hg] at h; cases h
      | some y =>
        rw [hg] at h
        simp only [Option.map_some] at h
        injection h with h
        subst h
        have ih := go_append r b q.2 hg
        rw [go_cons, hs]
        simp only [Option.bind_some]
        rw [ih]
        cases go L E none b with
        | none => rfl
        | some z => simp; omega
def plain (L E : Int) (l : List In) : Prop := ∀ x ∈ l, x.op ≠ L ∧ x.op ≠ E
theorem go_plain {L E : Int} : ∀ (l : List In), plain L E l → go L E none l = some (l.length : Int)
  | [], _ => rfl
  | x :: r, h => by
    have hx := h x (by simp)
    rw [go_cons, step]
    try dsimp only
    rw [if_neg hx.2, if_neg hx.1]
    simp only [Option.bind_some]
    rw [go_plain r fun y hy => h y (by simp [hy])]
    simp
    omega
theorem go_inner {L E : Int} {m : Int} : ∀ (l t : List In), plain L E l → go L E (some m) (l ++ t) = (go L E (some m) t).map fun y => m * l.length + y
  | [], t, _ => by simp
  | x :: r, t, h => by
    have hx := h x (by simp)
    rw [List.cons_append, go_cons, step]
    try dsimp only
    rw [if_neg hx.2, if_neg hx.1]
    simp only [Option.bind_some]
    rw [go_inner r t fun y hy => h y (by simp [hy])]
    cases go L E (some m) t with
    | none => rfl
    | some z =>
      simp only [Option.map_some, List.length_cons]
      congr 1
      rw [show ((r.length + 1 : Nat) : Int) = (r.length : Int) + 1 by omega, Int.mul_add]
      omega
theorem cost_around {L E : Int} {l : List In} (h : plain L E l) {x y : In} (hx : x.op = L) (hy : y.op = E) (hLE : L ≠ E) (hn : 1 ≤ x.n ∧ x.n ≤ 300) : cost L E (x :: (l ++ [y])) = 1 + x.n * (l.length + 1) := by
  unfold cost
  rw [go_cons, step]
  try dsimp only
  rw [if_neg (by rw [hx]; exact hLE), if_pos hx, if_pos hn]
  simp only [Option.bind_some]
  rw [go_inner l [y] h]
  have : go L E (some x.n) [y] = some x.n := by
    rw [go_cons, step]
    try dsimp only
    rw [if_pos hy]
    simp [go]
  rw [this]
  simp only [Option.map_some, Option.getD_some]
  rw [Int.mul_add]
  omega
def has (c f n : Int) : Bool := decide (0 ≤ f) && decide (f ≤ c - n)
def lk (R x : Int) : Bool := decide (x < 0) || decide (R ≤ x)
def lacks (R : Int) (l : List Int) : Bool := l.any (lk R)
def turn (n : Int) : Bool := decide (1 ≤ n) && decide (n ≤ 300)
def bars (c R : Int) (i : In) : Bool :=
  if i.op = 1 then lacks R [i.r]
  else if i.op = 2 ∨ i.op = 4 then lacks R [i.r] || !has c i.n 1
  else if i.op = 3 ∨ i.op = 5 then lacks R [i.r, i.a] || decide (i.b < 1) || !has c i.n i.b
  else if i.op = 6 then lacks R [i.r, i.a] || ((Kd.opT i.k).2.2 != 1)
  else if i.op = 7 then lacks R [i.r, i.a, i.b] || ((Kd.opT i.k).2.2 != 2)
  else if i.op = 8 then lacks R [i.r, i.a, i.b]
  else if i.op = 9 then lacks R [i.r, i.a]
  else if i.op = 10 then lacks R [i.r] || !turn i.n
  else if i.op = 11 then false
  else true
/-- where the first is of which it is so, or -1 -/
def idx {α : Type} (p : α → Bool) : Nat → List α → Int
  | _, [] => -1
  | i, x :: r => if p x = true then (i : Int) else idx p (i + 1) r
theorem idx_neg {α : Type} (p : α → Bool) : ∀ (l : List α) (i : Nat), (0 ≤ idx p i l ↔ l.any p = true) ∧ (l.any p = false → idx p i l = -1)
  | [], i => by simp [idx]
  | x :: r, i => by
    have h := idx_neg p r (i + 1)
    unfold idx
    cases hx : p x
    · simp only [Bool.false_eq_true, if_false, List.any_cons, hx, Bool.false_or]
      exact h
    · simp only [if_true, List.any_cons, hx, Bool.true_or]
      exact ⟨⟨fun _ => trivial, fun _ => by omega⟩, fun e => by cases e⟩
/-- an image -/
structure Im where
  c : Int
  R : Int
  cost : Int
  P : List Int
  B : List Int
  G : List Int
  l : List In
def fault (m : Im) : Int × Int :=
  if m.c < 1 ∨ 6000 < m.c ∨ m.R < 1 ∨ 40 < m.R then (13, -1)
  else if 6000 < m.P.length ∨ 6000 < m.B.length ∨ 120000 < m.G.length ∨ 200000 < m.l.length then (7, -1)
  else if ([m.P, m.B, m.G].any fun z => z.any fun x => !has m.c x 1) = true then (16, -1)
  else if 0 ≤ idx (bars m.c m.R) 0 m.l then (4, idx (bars m.c m.R) 0 m.l)
  else if m.cost ≠ cost 10 11 m.l ∨ (cost 10 11 m.l = 0 ∧ 0 < m.l.length) then (18, -1)
  else (0, 0)
end Cd
end Go.Proofs.YtbiomnnlpafciaaDoor
