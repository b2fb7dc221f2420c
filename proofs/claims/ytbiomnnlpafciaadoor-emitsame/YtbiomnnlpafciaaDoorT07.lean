import Derived.Test.YtbiomnnlpafciaaDoorT06
set_option linter.unusedVariables false
set_option linter.unusedSimpArgs false
set_option maxHeartbeats 64000000
set_option maxRecDepth 100000
namespace Go.Proofs.YtbiomnnlpafciaaDoor
open Go.RowKit Go.IntWalk
set_option linter.unusedVariables false
set_option linter.unusedSimpArgs false
namespace Em
open Lo Cd
/-- registers and cells -/
structure St where
  R : Int → Int
  M : List Int
def upd (f : Int → Int) (x v : Int) : Int → Int := fun y => if y = x then v else f y
theorem upd_at (f : Int → Int) (x v : Int) : upd f x v x = v := by simp [upd]
theorem upd_ne (f : Int → Int) {x y : Int} (v : Int) (h : y ≠ x) : upd f x v y = f y := by simp [upd, h]
/-- an instruction, no loop's; none: it cannot be done -/
def one (x : In) (s : St) : Option St :=
  if x.op = 1 then some ⟨upd s.R x.r x.n, s.M⟩
  else if x.op = 2 then some ⟨upd s.R x.r (rd s.M x.n), s.M⟩
  else if x.op = 4 then some ⟨s.R, s.M.set x.n.toNat (s.R x.r)⟩
  else if x.op = 3 then (if s.R x.a < 0 ∨ x.b ≤ s.R x.a then none else some ⟨upd s.R x.r (rd s.M (x.n + s.R x.a)), s.M⟩)
  else if x.op = 5 then (if s.R x.a < 0 ∨ x.b ≤ s.R x.a then none else some ⟨s.R, s.M.set (x.n + s.R x.a).toNat (s.R x.r)⟩)
  else if x.op = 6 then some ⟨upd s.R x.r (apT x.k (s.R x.a) 0), s.M⟩
  else if x.op = 7 then some ⟨upd s.R x.r (apT x.k (s.R x.a) (s.R x.b)), s.M⟩
  else if x.op = 8 then some ⟨upd s.R x.r (if s.R x.r = 0 then s.R x.b else s.R x.a), s.M⟩
  else if x.op = 9 then some ⟨upd s.R x.r (s.R x.a), s.M⟩
  else some s
def run : List In → St → Option St
  | [], s => some s
  | x :: l, s => (one x s).bind (run l)
theorem run_append : ∀ (a b : List In) (s : St), run (a ++ b) s = (run a s).bind (run b)
  | [], b, s => rfl
  | x :: l, b, s => by
    rw [List.cons_append, run, run]
    cases one x s with
    | none => rfl
    | some s' => exact run_append l b s'
/-- the code of a step of a tree, r being the stack's next free register, t how many turns the loop has (0: none) -/
def ep (p : Pu) (r t : Int) : List In :=
  if p.op = 1 then [⟨1, 0, r, 0, 0, p.n⟩]
  else if p.op = 2 then [⟨2, 0, r, 0, 0, p.v⟩]
  else if p.op = 3 then (if t = 0 then [⟨2, 0, r, 0, 0, p.v⟩] else [⟨3, 0, r, 0, t, p.v⟩])
  else if p.op = 4 then (if 0 < t then [⟨1, 0, r, 0, 0, p.n⟩, ⟨7, 1, r, r, 0, 0⟩] else [⟨1, 0, r, 0, 0, p.n⟩])
  else if p.op = 5 then [⟨6, p.k, r - 1, r - 1, 0, 0⟩]
  else if p.op = 6 then [⟨7, p.k, r - 2, r - 2, r - 1, 0⟩]
  else if p.op = 7 then [⟨8, 0, r - 3, r - 2, r - 1, 0⟩]
  else if p.op = 8 then [⟨1, 0, r, 0, 0, 0⟩, ⟨7, 8, r + 1, r - 2, r, 0⟩, ⟨6, 14, r + 1, r + 1, 0, 0⟩, ⟨1, 0, r + 2, 0, 0, p.n⟩, ⟨7, 8, r + 2, r - 2, r + 2, 0⟩, ⟨7, 10, r + 1, r + 1, r + 2, 0⟩, ⟨9, 0, r + 2, r + 1, 0, 0⟩, ⟨8, 0, r + 2, r - 2, r, 0⟩, ⟨3, 0, r + 2, r + 2, p.n, p.v⟩, ⟨8, 0, r + 1, r + 2, r - 1, 0⟩, ⟨9, 0, r - 2, r + 1, 0, 0⟩]
  else []
/-- where the stack's next free register is behind it -/
def er (p : Pu) (r : Int) : Int := r - tk p.op + 1
def et : List Pu → Int → Int → List In
  | [], _, _ => []
  | p :: l, r, t => ep p r t ++ et l (er p r) t
/-- the registers hold the stack, and the turn -/
structure Sim (s : St) (M : List Int) (st : List Int) (k t : Int) : Prop where
  M : s.M = M
  k : 0 < t → s.R 0 = k
  st : ∀ j (h : j < st.length), s.R (2 + (j : Int)) = st[j]
theorem Sim.top {s : St} {M st : List Int} {k t : Int} (h : Sim s M st k t) {q i : Nat} (hi : q + i < st.length) : (st.drop q).getD i 0 = s.R (2 + (q : Int) + (i : Int)) := by
  have h1 := h.st (q + i) hi
  rw [List.getD_eq_getElem?_getD, List.getElem?_drop, List.getElem?_eq_getElem hi, Option.getD_some, ← h1]
  congr 1
  omega
theorem Sim.put {s s' : St} {M st : List Int} {k t : Int} (h : Sim s M st k t) {p : Pu} (hM : s'.M = s.M) (h0 : s'.R 0 = s.R 0) (hlow : ∀ j : Int, 2 ≤ j → j < 2 + (rest st p : Int) → s'.R j = s.R j) (hv : s'.R (2 + (rest st p : Int)) = stepV M p (st.drop (rest st p)) k) (hq : rest st p ≤ st.length) : Sim s' M (stp M k st p) k t := by
  refine ⟨hM.trans h.M, fun ht => h0.trans (h.k ht), fun j hj => ?_⟩
  unfold stp at hj ⊢
  have hl : (st.take (rest st p)).length = rest st p := by rw [List.length_take]; omega
  rw [List.length_append, hl] at hj
  simp only [List.length_cons, List.length_nil] at hj
  by_cases hlt : j < rest st p
  · rw [List.getElem_append_left (by omega), List.getElem_take, hlow _ (by omega) (by omega)]
    exact h.st j (by omega)
  · have e : j = rest st p := by omega
    subst e
    rw [List.getElem_append_right (by omega)]
    simp only [hl, Nat.sub_self, List.getElem_cons_zero]
    exact hv
/-- the eleven instructions of a PAt -/
theorem at_run (s : St) {r n v : Int} (hn : 1 ≤ n) : ∃ s', run [⟨1, 0, r, 0, 0, 0⟩, ⟨7, 8, r + 1, r - 2, r, 0⟩, ⟨6, 14, r + 1, r + 1, 0, 0⟩, ⟨1, 0, r + 2, 0, 0, n⟩, ⟨7, 8, r + 2, r - 2, r + 2, 0⟩, ⟨7, 10, r + 1, r + 1, r + 2, 0⟩, ⟨9, 0, r + 2, r + 1, 0, 0⟩, ⟨8, 0, r + 2, r - 2, r, 0⟩, ⟨3, 0, r + 2, r + 2, n, v⟩, ⟨8, 0, r + 1, r + 2, r - 1, 0⟩, ⟨9, 0, r - 2, r + 1, 0, 0⟩] s = some s' ∧ s'.M = s.M ∧ (∀ j : Int, j < r - 2 → s'.R j = s.R j) ∧ s'.R (r - 2) = (if s.R (r - 2) < 0 ∨ n ≤ s.R (r - 2) then s.R (r - 1) else rd s.M (v + s.R (r - 2))) := by
  have e1 : (r : Int) - 2 ≠ r := by omega
  have e2 : (r : Int) - 2 ≠ r + 1 := by omega
  have e3 : (r : Int) - 2 ≠ r + 2 := by omega
  have e4 : (r : Int) - 1 ≠ r := by omega
  have e5 : (r : Int) - 1 ≠ r + 1 := by omega
  have e6 : (r : Int) - 1 ≠ r + 2 := by omega
  have e7 : (r : Int) ≠ r + 1 := by omega
  have e8 : (r : Int) ≠ r + 2 := by omega
  have e9 : (r : Int) + 1 ≠ r + 2 := by omega
  have e10 : (r : Int) + 2 ≠ r + 1 := by omega
  have e11 : (r : Int) + 1 ≠ r := by omega
  have e12 : (r : Int) + 2 ≠ r := by omega
  have k8 : ∀ a b : Int, apT 8 a b = tr (decide (a < b)) := fun a b => by simp [apT]
  have k14 : ∀ a b : Int, apT 14 a b = tr (decide (a = 0)) := fun a b => by simp [apT]
  have k10 : ∀ a b : Int, apT 10 a b = tr (decide (a ≠ 0 ∧ b ≠ 0)) := fun a b => by simp [apT]
  obtain ⟨x, hx⟩ : ∃ x, x = s.R (r - 2) := ⟨_, rfl⟩
  obtain ⟨y, hy⟩ : ∃ y, y = s.R (r - 1) := ⟨_, rfl⟩
  rw [← hx, ← hy]
  have a1 : ∀ j : Int, j < r - 2 → j ≠ r - 2 := fun j h => by omega
  have a2 : ∀ j : Int, j < r - 2 → j ≠ r := fun j h => by omega
  have a3 : ∀ j : Int, j < r - 2 → j ≠ r + 1 := fun j h => by omega
  have a4 : ∀ j : Int, j < r - 2 → j ≠ r + 2 := fun j h => by omega
  by_cases hin : x < 0 ∨ n ≤ x
  · have h1 : 0 ≤ x → n ≤ x := fun h => by omega
    have h2 : ¬ (0 ≤ x ∧ x < n) := by omega
    have hn0 : ¬ n ≤ 0 := by omega
    simp only [run, one, Option.bind_some]
    simp [upd_at, upd_ne, upd, e1, e2, e3, e4, e5, e6, e7, e8, e9, e10, e11, e12, k8, k14, k10, tr, ← hx, ← hy, hin]
    rw [if_pos h1, if_neg h2, if_neg (by omega)]
    simp [upd, e1, e2, e3, e4, e5, e6, e7, e8, e9, e10, e11, e12, ← hy]
    intro j hj
    simp [a1 j hj, a2 j hj, a3 j hj, a4 j hj]
  · have h1 : ¬ (0 ≤ x → n ≤ x) := fun h => by have := h (by omega); omega
    have h2 : 0 ≤ x ∧ x < n := by omega
    simp only [run, one, Option.bind_some]
    simp [upd_at, upd_ne, upd, e1, e2, e3, e4, e5, e6, e7, e8, e9, e10, e11, e12, k8, k14, k10, tr, ← hx, ← hy, hin]
    rw [if_neg h1, if_pos h2, if_neg (by omega)]
    simp [upd, e1, e2, e3, e4, e5, e6, e7, e8, e9, e10, e11, e12, ← hy]
    intro j hj
    simp [a1 j hj, a2 j hj, a3 j hj, a4 j hj]
theorem small64 {x : Int} (h : -1000000000000000000 ≤ x ∧ x ≤ 1000000000000000000) : wrap64 x = x := by
  unfold wrap64
  omega
theorem step_sim {s : St} {M st : List Int} {k c n t : Int} {p : Pu} (h : Sim s M st k t) (hp : pushOK c n p = true) (ht : tk p.op ≤ st.length) (htk : (t = 0 ∧ k = 0) ∨ (0 < t ∧ 0 ≤ k ∧ k < t)) : ∃ s', run (ep p (2 + (st.length : Int)) t) s = some s' ∧ Sim s' M (stp M k st p) k t ∧ s'.R 1 = s.R 1 := by
  obtain ⟨N, hN⟩ : ∃ N, N = st.length := ⟨_, rfl⟩
  have hM := h.M
  have h8 : ∀ i j : Nat, i < j → (2 : Int) + i ≠ 2 + j := fun i j h => by omega
  unfold pushOK at hp
  by_cases o1 : p.op = 1
  · have hr : rest st p = st.length := by simp [rest, o1, tk]
    refine ⟨⟨upd s.R (2 + (st.length : Int)) p.n, s.M⟩, by simp [ep, o1, run, one], h.put rfl ?_ ?_ ?_ (by omega), ?_⟩
    · exact upd_ne _ _ (by omega)
    · intro j h1 h2; exact upd_ne _ _ (by omega)
    · rw [hr]; simp [upd, stepV, o1]
    · exact upd_ne _ _ (by omega)
  by_cases o2 : p.op = 2
  · have hr : rest st p = st.length := by simp [rest, o2, tk]
    refine ⟨⟨upd s.R (2 + (st.length : Int)) (rd s.M p.v), s.M⟩, by simp [ep, o2, run, one], h.put rfl ?_ ?_ ?_ (by omega), ?_⟩
    · exact upd_ne _ _ (by omega)
    · intro j h1 h2; exact upd_ne _ _ (by omega)
    · rw [hr]; simp [upd, stepV, o2, hM]
    · exact upd_ne _ _ (by omega)
  by_cases o3 : p.op = 3
  · have hr : rest st p = st.length := by simp [rest, o3, tk]
    rcases htk with ⟨t0, k0⟩ | ⟨t0, k0, k1⟩
    · refine ⟨⟨upd s.R (2 + (st.length : Int)) (rd s.M p.v), s.M⟩, by simp [ep, o3, t0, run, one], h.put rfl ?_ ?_ ?_ (by omega), ?_⟩
      · exact upd_ne _ _ (by omega)
      · intro j h1 h2; exact upd_ne _ _ (by omega)
      · rw [hr]; simp [upd, stepV, o3, hM, k0]
      · exact upd_ne _ _ (by omega)
    · have ht0 : ¬ t = 0 := by omega
      have hk := h.k t0
      have hc : ¬ (s.R 0 < 0 ∨ t ≤ s.R 0) := by rw [hk]; omega
      refine ⟨⟨upd s.R (2 + (st.length : Int)) (rd s.M (p.v + s.R 0)), s.M⟩, by simp [ep, o3, ht0, run, one, hc], h.put rfl ?_ ?_ ?_ (by omega), ?_⟩
      · exact upd_ne _ _ (by omega)
      · intro j h1 h2; exact upd_ne _ _ (by omega)
      · rw [hr]; simp [upd, stepV, o3, hM, hk]
      · exact upd_ne _ _ (by omega)
  by_cases o4 : p.op = 4
  · have hr : rest st p = st.length := by simp [rest, o4, tk]
    simp [o4] at hp
    rcases htk with ⟨t0, k0⟩ | ⟨t0, k0, k1⟩
    · have ht0 : ¬ 0 < t := by omega
      refine ⟨⟨upd s.R (2 + (st.length : Int)) p.n, s.M⟩, by simp [ep, o4, ht0, run, one], h.put rfl ?_ ?_ ?_ (by omega), ?_⟩
      · exact upd_ne _ _ (by omega)
      · intro j h1 h2; exact upd_ne _ _ (by omega)
      · rw [hr]; simp [upd, stepV, o4, k0]; exact (small64 hp).symm
      · exact upd_ne _ _ (by omega)
    · have hk := h.k t0
      refine ⟨⟨upd (upd s.R (2 + (st.length : Int)) p.n) (2 + (st.length : Int)) (wrap64 (p.n + s.R 0)), s.M⟩, ?_, h.put rfl ?_ ?_ ?_ (by omega), ?_⟩
      · have e0 : (0 : Int) ≠ 2 + (st.length : Int) := by omega
        simp [ep, o4, t0, run, one, apT, upd_at, upd_ne _ _ e0]
      · simp only [upd_ne _ _ (show (0 : Int) ≠ 2 + (st.length : Int) by omega)]
      · intro j h1 h2
        have e0 : j ≠ 2 + (st.length : Int) := by omega
        simp only [upd_ne _ _ e0]
      · rw [hr]; simp [upd, stepV, o4, hk, Int.add_comm]
      · simp only [upd_ne _ _ (show (1 : Int) ≠ 2 + (st.length : Int) by omega)]
  by_cases o5 : p.op = 5
  · have htt : tk p.op = 1 := by simp [o5, tk]
    rw [htt] at ht
    have hr : rest st p = st.length - 1 := by simp [rest, htt]
    have e : (2 : Int) + st.length - 1 = 2 + (rest st p : Int) := by omega
    refine ⟨⟨upd s.R (2 + (rest st p : Int)) (apT p.k (s.R (2 + (rest st p : Int))) 0), s.M⟩, by simp [ep, o5, run, one, e], h.put rfl ?_ ?_ ?_ (by omega), ?_⟩
    · exact upd_ne _ _ (by omega)
    · intro j h1 h2; exact upd_ne _ _ (by omega)
    · show upd _ _ _ _ = _
      rw [upd_at]
      unfold stepV
      rw [if_neg (by omega), if_neg (by omega), if_neg (by omega), if_pos o5, h.top (by omega)]
      simp
    · exact upd_ne _ _ (by omega)
  by_cases o6 : p.op = 6
  · have htt : tk p.op = 2 := by simp [o6, tk]
    rw [htt] at ht
    have hr : rest st p = st.length - 2 := by simp [rest, htt]
    have e : (2 : Int) + st.length - 2 = 2 + (rest st p : Int) := by omega
    have e' : (2 : Int) + st.length - 1 = 2 + (rest st p : Int) + 1 := by omega
    refine ⟨⟨upd s.R (2 + (rest st p : Int)) (apT p.k (s.R (2 + (rest st p : Int))) (s.R (2 + (rest st p : Int) + 1))), s.M⟩, by simp [ep, o6, run, one, e, e'], h.put rfl ?_ ?_ ?_ (by omega), ?_⟩
    · exact upd_ne _ _ (by omega)
    · intro j h1 h2; exact upd_ne _ _ (by omega)
    · show upd _ _ _ _ = _
      rw [upd_at]
      unfold stepV
      rw [if_neg (by omega), if_neg (by omega), if_neg (by omega), if_neg (by omega), if_pos o6, h.top (by omega), h.top (by omega)]
      simp
    · exact upd_ne _ _ (by omega)
  by_cases o7 : p.op = 7
  · have htt : tk p.op = 3 := by simp [o7, tk]
    rw [htt] at ht
    have hr : rest st p = st.length - 3 := by simp [rest, htt]
    have e : (2 : Int) + st.length - 3 = 2 + (rest st p : Int) := by omega
    have e' : (2 : Int) + st.length - 2 = 2 + (rest st p : Int) + 1 := by omega
    have e'' : (2 : Int) + st.length - 1 = 2 + (rest st p : Int) + 2 := by omega
    refine ⟨⟨upd s.R (2 + (rest st p : Int)) (if s.R (2 + (rest st p : Int)) = 0 then s.R (2 + (rest st p : Int) + 2) else s.R (2 + (rest st p : Int) + 1)), s.M⟩, by simp [ep, o7, run, one, e, e', e''], h.put rfl ?_ ?_ ?_ (by omega), ?_⟩
    · exact upd_ne _ _ (by omega)
    · intro j h1 h2; exact upd_ne _ _ (by omega)
    · have hs : stepV M p (st.drop (rest st p)) k = (if (st.drop (rest st p)).getD 0 0 ≠ 0 then (st.drop (rest st p)).getD 1 0 else (st.drop (rest st p)).getD 2 0) := by
        unfold stepV
        rw [if_neg (by omega), if_neg (by omega), if_neg (by omega), if_neg (by omega), if_neg (by omega), if_pos o7]
      rw [hs, h.top (by omega), h.top (by omega), h.top (by omega)]
      show upd _ _ _ _ = _
      rw [upd_at]
      by_cases hz : s.R (2 + (rest st p : Int)) = 0
      · rw [if_pos hz, if_neg (fun hh => hh (by simpa using hz))]; rfl
      · rw [if_neg hz, if_pos (by simpa using hz)]; rfl
    · exact upd_ne _ _ (by omega)
  by_cases o8 : p.op = 8
  · have htt : tk p.op = 2 := by simp [o8, tk]
    rw [htt] at ht
    have hr : rest st p = st.length - 2 := by simp [rest, htt]
    have e : (2 : Int) + st.length - 2 = 2 + (rest st p : Int) := by omega
    have e' : (2 : Int) + st.length - 1 = 2 + (rest st p : Int) + 1 := by omega
    have hn1 : 1 ≤ p.n := by
      simp [o8] at hp
      exact hp.1
    obtain ⟨s', r1, r2, r3, r4⟩ := at_run s (r := 2 + (st.length : Int)) (n := p.n) (v := p.v) hn1
    rw [e] at r3 r4
    rw [e'] at r4
    refine ⟨s', by rw [← r1]; simp [ep, o8], h.put r2 (r3 0 (by omega)) (fun j h1 h2 => r3 j h2) ?_ (by omega), r3 1 (by omega)⟩
    have hs : stepV M p (st.drop (rest st p)) k = (if (st.drop (rest st p)).getD 0 0 < 0 ∨ p.n ≤ (st.drop (rest st p)).getD 0 0 then (st.drop (rest st p)).getD 1 0 else rd M (p.v + (st.drop (rest st p)).getD 0 0)) := by
      unfold stepV
      rw [if_neg (by omega), if_neg (by omega), if_neg (by omega), if_neg (by omega), if_neg (by omega), if_neg (by omega), if_pos o8]
    rw [r4, hs, h.top (by omega), h.top (by omega), hM]
    simp
  · simp [o1, o2, o3, o4, o5, o6, o7, o8] at hp
theorem stp_len {M st : List Int} {k : Int} {p : Pu} (ht : tk p.op ≤ st.length) : ((stp M k st p).length : Int) = st.length - tk p.op + 1 := by
  have := tk_nonneg p.op
  unfold stp rest
  rw [List.length_append, List.length_take]
  simp
  omega
theorem tree_from {c n : Int} {E : List Pu} (hf : Fit c n E) {M : List Int} {k t : Int} (htk : (t = 0 ∧ k = 0) ∨ (0 < t ∧ 0 ≤ k ∧ k < t)) : ∀ (m i : Nat), m + i = E.length → ∀ (s : St), Sim s M (stk M k E i) k t → ∃ s', run (et (E.drop i) (2 + ((stk M k E i).length : Int)) t) s = some s' ∧ Sim s' M (stk M k E E.length) k t ∧ s'.R 1 = s.R 1
  | 0, i, e, s, h => by
    have : i = E.length := by omega
    subst this
    exact ⟨s, by rw [List.drop_length]; rfl, h, rfl⟩
  | m + 1, i, e, s, h => by
    have hi : i < E.length := by omega
    obtain ⟨h1, h2, h3⟩ := hf.at' M k i hi
    obtain ⟨s1, r1, r2, r3⟩ := step_sim (t := t) h h2 h1 htk
    have hl := stp_len (M := M) (k := k) h1
    rw [← stk_succ M k E hi] at r2 hl
    obtain ⟨s2, q1, q2, q3⟩ := tree_from hf htk m (i + 1) (by omega) s1 r2
    refine ⟨s2, ?_, q2, q3.trans r3⟩
    rw [List.drop_eq_getElem_cons hi, et, run_append, r1, Option.bind_some, ← q1]
    congr 2
    unfold er
    omega
/-- the code of a tree does what the tree does -/
theorem tree_sim {c n : Int} {E : List Pu} (hf : Fit c n E) {s : St} {k t : Int} (hk : 0 < t → s.R 0 = k) (htk : (t = 0 ∧ k = 0) ∨ (0 < t ∧ 0 ≤ k ∧ k < t)) : ∃ s', run (et E 2 t) s = some s' ∧ s'.M = s.M ∧ (0 < t → s'.R 0 = k) ∧ s'.R 1 = s.R 1 ∧ s'.R 2 = tree s.M k E := by
  obtain ⟨s', h1, h2, h3⟩ := tree_from hf (M := s.M) htk E.length 0 (by omega) s ⟨rfl, hk, fun j hj => by simp [stk_zero] at hj⟩
  rw [stk_zero] at h1
  simp at h1
  refine ⟨s', h1, h2.M, h2.k, h3, ?_⟩
  have hl := hf.fin s.M k
  have h4 := h2.st 0 (by omega)
  unfold tree
  rw [List.getD_eq_getElem?_getD, List.getElem?_eq_getElem (by omega), Option.getD_some]
  simpa using h4
def loopR (r : Int) (body : List In) : Nat → Int → St → Option St
  | 0, _, s => some s
  | m + 1, i, s => (run body ⟨upd s.R r i, s.M⟩).bind (loopR r body m (i + 1))
theorem each_sim {c n tgt : Int} {E : List Pu} (hf : Fit c n E) {t : Int} : ∀ (m i : Nat) (s : St), (i : Int) + m ≤ t → ∃ s', loopR 0 (et E 2 t ++ [⟨5, 0, 2, 0, t, tgt⟩]) m (i : Int) s = some s' ∧ s'.M = eachL tgt E m i s.M ∧ s'.R 1 = s.R 1
  | 0, i, s, h => ⟨s, rfl, rfl, rfl⟩
  | m + 1, i, s, h => by
    obtain ⟨s1, h1, h2, h3', h4, h5⟩ := tree_sim hf (s := ⟨upd s.R 0 i, s.M⟩) (k := i) (t := t) (fun _ => by show upd s.R 0 (i : Int) 0 = i; exact upd_at _ _ _) (.inr ⟨by omega, by omega, by omega⟩)
    have h3 := h3' (by omega)
    have hc : ¬ (s1.R 0 < 0 ∨ t ≤ s1.R 0) := by rw [h3]; omega
    obtain ⟨s2, q1, q2, q3⟩ := each_sim (tgt := tgt) hf (t := t) m (i + 1) ⟨s1.R, s1.M.set (tgt + s1.R 0).toNat (s1.R 2)⟩ (by omega)
    refine ⟨s2, ?_, ?_, ?_⟩
    · rw [loopR, run_append, h1, Option.bind_some]
      have e : run [⟨5, 0, 2, 0, t, tgt⟩] s1 = some ⟨s1.R, s1.M.set (tgt + s1.R 0).toNat (s1.R 2)⟩ := by simp [run, one, hc]
      rw [e, Option.bind_some, ← q1]
      rfl
    · rw [q2, eachL, h3, h5, h2]
    · rw [q3]
      exact h4.trans (upd_ne s.R (x := 0) (y := 1) (i : Int) (by decide))
theorem fold_sim {c n K : Int} {E : List Pu} (hf : Fit c n E) {t : Int} : ∀ (m i : Nat) (s : St), (i : Int) + m ≤ t → ∃ s', loopR 0 (et E 2 t ++ [⟨7, K, 1, 1, 2, 0⟩]) m (i : Int) s = some s' ∧ s'.M = s.M ∧ s'.R 1 = foldL K E s.M m i (s.R 1)
  | 0, i, s, h => ⟨s, rfl, rfl, rfl⟩
  | m + 1, i, s, h => by
    obtain ⟨s1, h1, h2, h3', h4, h5⟩ := tree_sim hf (s := ⟨upd s.R 0 i, s.M⟩) (k := i) (t := t) (fun _ => by show upd s.R 0 (i : Int) 0 = i; exact upd_at _ _ _) (.inr ⟨by omega, by omega, by omega⟩)
    have h3 := h3' (by omega)
    obtain ⟨s2, q1, q2, q3⟩ := fold_sim (K := K) hf (t := t) m (i + 1) ⟨upd s1.R 1 (apT K (s1.R 1) (s1.R 2)), s1.M⟩ (by omega)
    have h4' : s1.R 1 = s.R 1 := h4.trans (upd_ne s.R (x := 0) (y := 1) (i : Int) (by decide))
    refine ⟨s2, ?_, ?_, ?_⟩
    · rw [loopR, run_append, h1, Option.bind_some]
      have e : run [⟨7, K, 1, 1, 2, 0⟩] s1 = some ⟨upd s1.R 1 (apT K (s1.R 1) (s1.R 2)), s1.M⟩ := by simp [run, one]
      rw [e, Option.bind_some, ← q1]
      rfl
    · rw [q2]; exact h2
    · rw [q3, foldL, h5, h4', h2]
      show foldL K E s.M m (i + 1) (upd s1.R 1 (apT K (s.R 1) (tree s.M (i : Int) E)) 1) = _
      rw [upd_at]
theorem scan_sim {c n K tgt : Int} {E : List Pu} (hf : Fit c n E) {t : Int} : ∀ (m i : Nat) (s : St), (i : Int) + m ≤ t → ∃ s', loopR 0 (et E 2 t ++ [⟨7, K, 1, 1, 2, 0⟩, ⟨5, 0, 1, 0, t, tgt⟩]) m (i : Int) s = some s' ∧ s'.M = scanL K tgt E m i (s.R 1) s.M
  | 0, i, s, h => ⟨s, rfl, rfl⟩
  | m + 1, i, s, h => by
    obtain ⟨s1, h1, h2, h3', h4, h5⟩ := tree_sim hf (s := ⟨upd s.R 0 i, s.M⟩) (k := i) (t := t) (fun _ => by show upd s.R 0 (i : Int) 0 = i; exact upd_at _ _ _) (.inr ⟨by omega, by omega, by omega⟩)
    have h3 := h3' (by omega)
    have hc : ¬ (s1.R 0 < 0 ∨ t ≤ s1.R 0) := by rw [h3]; omega
    have h4' : s1.R 1 = s.R 1 := h4.trans (upd_ne s.R (x := 0) (y := 1) (i : Int) (by decide))
    obtain ⟨v, hv⟩ : ∃ v, v = apT K (s1.R 1) (s1.R 2) := ⟨_, rfl⟩
    obtain ⟨s2, q1, q2⟩ := scan_sim (K := K) (tgt := tgt) hf (t := t) m (i + 1) ⟨upd s1.R 1 v, s1.M.set (tgt + s1.R 0).toNat v⟩ (by omega)
    refine ⟨s2, ?_, ?_⟩
    · rw [loopR, run_append, h1, Option.bind_some]
      have e : run [⟨7, K, 1, 1, 2, 0⟩, ⟨5, 0, 1, 0, t, tgt⟩] s1 = some ⟨upd s1.R 1 v, s1.M.set (tgt + s1.R 0).toNat v⟩ := by
        have e0 : upd s1.R 1 v 0 = s1.R 0 := upd_ne _ _ (by omega)
        simp [run, one, ← hv, e0, hc, upd_at]
      rw [e, Option.bind_some, ← q1]
      rfl
    · rw [q2, scanL]
      show scanL K tgt E m (i + 1) (upd s1.R 1 v 1) _ = _
      rw [upd_at, hv, h4', h5, h3, h2]
def plain (l : List In) : Prop := ∀ x ∈ l, x.op ≠ 10 ∧ x.op ≠ 11
theorem ep_plain (p : Pu) (r t : Int) : plain (ep p r t) := by
  intro x hx
  unfold ep at hx
  repeat' split at hx
  all_goals
    simp at hx
    try (rcases hx with rfl | rfl | rfl | rfl | rfl | rfl | rfl | rfl | rfl | rfl | rfl <;> simp)
    try (rcases hx with rfl | rfl <;> simp)
    try (subst hx; simp)
theorem et_plain : ∀ (l : List Pu) (r t : Int), plain (et l r t)
  | [], r, t => fun x hx => by simp [et] at hx
  | p :: l, r, t => fun x hx => by
    rw [et, List.mem_append] at hx
    rcases hx with h | h
    · exact ep_plain p r t x h
    · exact et_plain l _ t x h
theorem plain_app {a b : List In} (ha : plain a) (hb : plain b) : plain (a ++ b) := fun x hx => (List.mem_append.1 hx).elim (ha x) (hb x)
/-- up to the first IEnd, and what comes behind it -/
def cutEnd : List In → List In × List In
  | [] => ([], [])
  | x :: l => if x.op = 11 then ([], l) else (x :: (cutEnd l).1, (cutEnd l).2)
theorem cutEnd_len : ∀ l : List In, (cutEnd l).2.length ≤ l.length
  | [] => by simp [cutEnd]
  | x :: l => by
    unfold cutEnd
    split
    · simp
    · have := cutEnd_len l
      simp
      omega
theorem cutEnd_at : ∀ {b : List In} {e : In} {l : List In}, plain b → e.op = 11 → cutEnd (b ++ e :: l) = (b, l)
  | [], e, l, _, he => by simp [cutEnd, he]
  | x :: b, e, l, hb, he => by
    have hx := (hb x (by simp)).2
    rw [List.cons_append, cutEnd, if_neg hx, cutEnd_at (fun y hy => hb y (by simp [hy])) he]
/-- all of the code -/
def all : List In → St → Option St
  | [], s => some s
  | x :: l, s => if x.op = 10 then (loopR x.r (cutEnd l).1 x.n.toNat 0 s).bind (all (cutEnd l).2) else (one x s).bind (all l)
termination_by l => l.length
decreasing_by
  · have := cutEnd_len l
    simp
    omega
  · simp
theorem all_nil (s : St) : all [] s = some s := by rw [all]
theorem all_plain : ∀ {a b : List In} {s : St}, plain a → all (a ++ b) s = (run a s).bind (all b)
  | [], b, s, _ => rfl
  | x :: a, b, s, h => by
    rw [List.cons_append, all, if_neg (h x (by simp)).1, run]
    cases one x s with
    | none => rfl
    | some s' => exact all_plain (fun y hy => h y (by simp [hy]))
theorem all_loop {x e : In} {b l : List In} {s : St} (hx : x.op = 10) (hb : plain b) (he : e.op = 11) : all (x :: (b ++ e :: l)) s = (loopR x.r b x.n.toNat 0 s).bind (all l) := by
  rw [all, if_pos hx, cutEnd_at hb he]
def mid (x : Sp) : List In := if x.op = 2 then [⟨5, 0, 2, 0, x.n, x.tgt⟩] else if x.op = 3 then [⟨7, x.k, 1, 1, 2, 0⟩] else [⟨7, x.k, 1, 1, 2, 0⟩, ⟨5, 0, 1, 0, x.n, x.tgt⟩]
/-- the code of a step -/
def es (x : Sp) : List In :=
  if x.op = 1 then et x.E 2 0 ++ [⟨4, 0, 2, 0, 0, x.tgt⟩]
  else (if x.op = 3 ∨ x.op = 4 then et x.F 2 0 ++ [⟨9, 0, 1, 2, 0, 0⟩] else []) ++ (⟨10, 0, 0, 0, 0, x.n⟩ :: ((et x.E 2 x.n ++ mid x) ++ ⟨11, 0, 0, 0, 0, 0⟩ :: (if x.op = 3 then [⟨4, 0, 1, 0, 0, x.tgt⟩] else [])))
theorem mid_plain (x : Sp) : plain (mid x) := by
  intro y hy
  unfold mid at hy
  repeat' split at hy
  all_goals
    simp at hy
    try (rcases hy with rfl | rfl <;> simp)
    try (subst hy; simp)
/-- a step's code does what the step does; the turn's register is 0 ahead of it where the step is no loop's -/
theorem step_all {c : Int} {x : Sp} (h : Ok c x) {rest : List In} {s : St} : ∃ s', all (es x ++ rest) s = all rest s' ∧ s'.M = doS s.M x := by
  by_cases o1 : x.op = 1
  · have hE := h.E
    unfold turns at hE
    rw [if_pos o1] at hE
    obtain ⟨s1, h1, h2, -, -, h5⟩ := tree_sim hE (s := s) (k := 0) (t := 0) (fun h => by omega) (.inl ⟨rfl, rfl⟩)
    refine ⟨⟨s1.R, s1.M.set x.tgt.toNat (s1.R 2)⟩, ?_, ?_⟩
    · unfold es
      rw [if_pos o1, List.append_assoc, all_plain (et_plain _ _ _), h1, Option.bind_some]
      show all (⟨4, 0, 2, 0, 0, x.tgt⟩ :: rest) s1 = _
      rw [all]
      simp [one]
    · unfold doS
      rw [if_pos o1, h5, h2]
  have hn := h.n o1
  have hE := h.E
  unfold turns at hE
  rw [if_neg o1] at hE
  obtain ⟨N, hN⟩ : ∃ N : Nat, x.n = (N : Int) := ⟨x.n.toNat, by omega⟩
  have hT : x.n.toNat = N := by omega
  by_cases o2 : x.op = 2
  · obtain ⟨s1, h1, h2, -⟩ := each_sim (tgt := x.tgt) hE (t := x.n) N 0 s (by omega)
    refine ⟨s1, ?_, ?_⟩
    · unfold es
      rw [if_neg o1, if_neg (by omega), if_neg (by omega), List.nil_append, List.cons_append, List.append_assoc, List.cons_append, all_loop rfl (plain_app (et_plain _ _ _) (mid_plain _)) rfl]
      unfold mid
      rw [if_pos o2]
      dsimp only
      rw [hT]
      have h1' := h1
      rw [show ((0 : Nat) : Int) = 0 from rfl] at h1'
      rw [h1', Option.bind_some, List.nil_append]
    · unfold doS
      rw [if_neg o1, if_pos o2, h2, hT]
  have hF := h.F (by have := h.op; omega)
  obtain ⟨s0, g1, g2, -, -, g5⟩ := tree_sim hF (s := s) (k := 0) (t := 0) (fun h => by omega) (.inl ⟨rfl, rfl⟩)
  have g6 : run (et x.F 2 0 ++ [⟨9, 0, 1, 2, 0, 0⟩]) s = some ⟨upd s0.R 1 (s0.R 2), s0.M⟩ := by
    rw [run_append, g1, Option.bind_some]
    simp [run, one]
  have gp : plain (et x.F 2 0 ++ [⟨9, 0, 1, 2, 0, 0⟩]) := plain_app (et_plain _ _ _) (fun y hy => by simp at hy; subst hy; simp)
  have gv : upd s0.R 1 (s0.R 2) 1 = tree s.M 0 x.F := by rw [upd_at, g5]
  by_cases o3 : x.op = 3
  · obtain ⟨s1, h1, h2, h3⟩ := fold_sim (K := x.k) hE (t := x.n) N 0 ⟨upd s0.R 1 (s0.R 2), s0.M⟩ (by omega)
    refine ⟨⟨s1.R, s1.M.set x.tgt.toNat (s1.R 1)⟩, ?_, ?_⟩
    · unfold es
      rw [if_neg o1, if_pos (.inl o3), if_pos o3, List.append_assoc, all_plain gp, g6, Option.bind_some, List.cons_append, List.append_assoc, List.cons_append, all_loop rfl (plain_app (et_plain _ _ _) (mid_plain _)) rfl]
      unfold mid
      rw [if_neg o2, if_pos o3]
      dsimp only
      rw [hT]
      have h1' := h1
      rw [show ((0 : Nat) : Int) = 0 from rfl] at h1'
      rw [h1', Option.bind_some]
      show all (⟨4, 0, 1, 0, 0, x.tgt⟩ :: rest) s1 = _
      rw [all]
      simp [one]
    · unfold doS
      rw [if_neg o1, if_neg o2, if_pos o3, h3, h2, hT]
      show List.set s0.M _ (foldL x.k x.E s0.M N 0 (upd s0.R 1 (s0.R 2) 1)) = _
      rw [gv, g2]
  · obtain ⟨s1, h1, h2⟩ := scan_sim (K := x.k) (tgt := x.tgt) hE (t := x.n) N 0 ⟨upd s0.R 1 (s0.R 2), s0.M⟩ (by omega)
    refine ⟨s1, ?_, ?_⟩
    · unfold es
      rw [if_neg o1, if_pos (by have := h.op; omega), if_neg o3, List.append_assoc, all_plain gp, g6, Option.bind_some, List.cons_append, List.append_assoc, List.cons_append, all_loop rfl (plain_app (et_plain _ _ _) (mid_plain _)) rfl]
      unfold mid
      rw [if_neg o2, if_neg o3]
      dsimp only
      rw [hT]
      have h1' := h1
      rw [show ((0 : Nat) : Int) = 0 from rfl] at h1'
      rw [h1', Option.bind_some, List.nil_append]
    · unfold doS
      rw [if_neg o1, if_neg o2, if_neg o3, h2, hT]
      show scanL x.k x.tgt x.E N 0 (upd s0.R 1 (s0.R 2) 1) s0.M = _
      rw [gv, g2]
/-- CODE IS WHAT THE LOOPS DO -/
theorem code_all {c : Int} : ∀ (S : List Sp) (s : St), (∀ x ∈ S, Ok c x) → ∃ s', all (S.map es).flatten s = some s' ∧ s'.M = S.foldl doS s.M
  | [], s, _ => ⟨s, by rw [List.map_nil, List.flatten_nil, all_nil], rfl⟩
  | x :: S, s, h => by
    obtain ⟨s1, h1, h2⟩ := step_all (h x (by simp)) (rest := (S.map es).flatten) (s := s)
    obtain ⟨s2, h3, h4⟩ := code_all S s1 (fun y hy => h y (by simp [hy]))
    refine ⟨s2, ?_, ?_⟩
    · rw [List.map_cons, List.flatten_cons, h1, h3]
    · rw [h4, h2, List.foldl_cons]
end Em
end Go.Proofs.YtbiomnnlpafciaaDoor
