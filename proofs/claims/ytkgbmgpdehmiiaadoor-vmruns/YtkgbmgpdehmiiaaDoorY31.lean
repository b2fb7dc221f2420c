import Derived.Test.YtkgbmgpdehmiiaaDoorY23
set_option linter.unusedVariables false
set_option linter.unusedSimpArgs false
set_option maxHeartbeats 64000000
set_option maxRecDepth 100000
namespace Go.Proofs.YtkgbmgpdehmiiaaDoor
open Go.RowKit Go.IntWalk
set_option linter.unusedVariables false
set_option linter.unusedSimpArgs false
namespace Em
open Lo Cd
/-- behind a loop -/
def finF (l : List In) (i : Nat) (z : Res) : Res := if z.p < 0 then allF l i z.s z.st else z
/-- within a loop, n turns behind this one -/
def inL (r : Int) (b l : List In) (j n : Nat) (k : Int) (q : Res) : Res := if q.p < 0 then finF l (j + 1 + b.length + 1) (loopF r b (j + 1) n (k + 1) q.s (wrap64 (q.st + 1))) else q
theorem enterF {x e : In} {b l : List In} {j n : Nat} {s : St} {st : Int} (h10 : x.op = 10) (hb : plain b) (he : e.op = 11) (hn : x.n.toNat = n + 1) : allF (x :: (b ++ e :: l)) j s st = inL x.r b l j n 0 (runF b (j + 1) ⟨upd s.R x.r 0, s.M⟩ (wrap64 (st + 1))) := by
  rw [allF_loop h10 hb he, hn, loopF]
  unfold inL finF
  rw [show j + 1 + b.length + 1 = j + b.length + 2 by omega]
  by_cases h : (runF b (j + 1) ⟨upd s.R x.r 0, s.M⟩ (wrap64 (st + 1))).p < 0
  · rw [if_pos h, if_pos h]
  · rw [if_neg h, if_neg h, if_neg h]
theorem againL {r : Int} {b l : List In} {j n : Nat} {k : Int} {q : Res} (h : q.p < 0) : inL r b l j (n + 1) k q = inL r b l j n (k + 1) (runF b (j + 1) ⟨upd q.s.R r (k + 1), q.s.M⟩ (wrap64 (q.st + 1))) := by
  unfold inL
  rw [if_pos h, loopF]
  unfold finF
  by_cases h2 : (runF b (j + 1) ⟨upd q.s.R r (k + 1), q.s.M⟩ (wrap64 (q.st + 1))).p < 0
  · rw [if_pos h2, if_pos h2]
  · rw [if_neg h2, if_neg h2, if_neg h2]
theorem doneL {r : Int} {b l : List In} {j : Nat} {k : Int} {q : Res} (h : q.p < 0) : inL r b l j 0 k q = allF l (j + 1 + b.length + 1) q.s (wrap64 (q.st + 1)) := by
  unfold inL
  rw [if_pos h, loopF]
  unfold finF
  rw [if_pos (show (-1 : Int) < 0 by decide)]
theorem strayL {r : Int} {b l : List In} {j n : Nat} {k : Int} {q : Res} (h : ¬ q.p < 0) : inL r b l j n k q = q := by
  unfold inL
  rw [if_neg h]
/-- a bound -/
def bnd (C : List In) : Nat := 301 * (C.length + 2)
/-- in no loop -/
structure InA (C : List In) (res : Res) (k pc : Nat) (s : St) (dn : Int) : Prop where
  le : pc ≤ C.length
  kk : k = (C.length - pc) * bnd C
  aa : allF (C.drop pc) pc s dn = res
  gg : Cd.go 10 11 none (C.drop pc) ≠ none
/-- in a loop -/
structure InB (C : List In) (res : Res) (k pc : Nat) (s : St) (dn lp tu : Int) (j m : Nat) (x e : In) (b l : List In) : Prop where
  cc : C.drop j = x :: (b ++ e :: l)
  oo : x.op = 10
  pl : plain b
  eo : e.op = 11
  t0 : 0 ≤ tu
  t1 : tu < x.n
  t3 : x.n ≤ 300
  gg : Cd.go 10 11 none l ≠ none
  ll : lp = (j : Int)
  mm : m ≤ b.length
  pp : pc = j + 1 + m
  aa : inL x.r b l j (x.n - 1 - tu).toNat tu (runF (b.drop m) pc s dn) = res
  kk : k = (C.length - (j + 1)) * bnd C + ((x.n - 1 - tu).toNat * (C.length + 1) + (b.length - m) + 1)
/-- what is still to come -/
def Inv (C : List In) (res : Res) (k pc : Nat) (s : St) (dn lp tu : Int) : Prop := InA C res k pc s dn ∨ ∃ j m x e b l, InB C res k pc s dn lp tu j m x e b l
theorem mul_next {n pc B : Nat} (h : pc < n) : (n - pc) * B = (n - (pc + 1)) * B + B := by
  rw [show n - pc = n - (pc + 1) + 1 by omega, Nat.succ_mul]
theorem InB.len {C : List In} {res : Res} {k pc : Nat} {s : St} {dn lp tu : Int} {j m : Nat} {x e : In} {b l : List In} (h : InB C res k pc s dn lp tu j m x e b l) : C.length = j + 1 + b.length + 1 + l.length := by
  have := congrArg List.length h.cc
  simp at this
  have hj : j < C.length := by omega
  omega
theorem drop_get {C r : List In} {j : Nat} {x : In} (h : C.drop j = x :: r) : ∃ hj : j < C.length, C[j] = x ∧ C.drop (j + 1) = r := by
  have hl := congrArg List.length h
  simp at hl
  have hj : j < C.length := by omega
  rw [List.drop_eq_getElem_cons hj] at h
  injection h with h1 h2
  exact ⟨hj, h1, h2⟩
theorem InB.at {C : List In} {res : Res} {k pc : Nat} {s : St} {dn lp tu : Int} {j m : Nat} {x e : In} {b l : List In} (h : InB C res k pc s dn lp tu j m x e b l) : C.drop pc = b.drop m ++ e :: l := by
  obtain ⟨hj, h1, h2⟩ := drop_get h.cc
  rw [h.pp, ← List.drop_drop, h2, List.drop_append_of_le_length h.mm]
theorem Inv.le {C : List In} {res : Res} {k pc : Nat} {s : St} {dn lp tu : Int} (h : Inv C res k pc s dn lp tu) : pc ≤ C.length := by
  rcases h with h | ⟨j, m, x, e, b, l, h⟩
  · exact h.le
  · have := h.len
    have := h.pp
    have := h.mm
    omega
theorem Inv.done {C : List In} {res : Res} {k pc : Nat} {s : St} {dn lp tu : Int} (h : Inv C res k pc s dn lp tu) (hp : pc = C.length) : res = ⟨s, dn, -1⟩ := by
  rcases h with h | ⟨j, m, x, e, b, l, h⟩
  · have := h.aa
    rw [hp, List.drop_length, allF_nil] at this
    exact this.symm
  · have := h.len
    have := h.pp
    have := h.mm
    omega
theorem Inv.first {C : List In} {s : St} (hg : Cd.go 10 11 none C ≠ none) (lp tu : Int) : Inv C (allF C 0 s 0) (C.length * bnd C) 0 s 0 lp tu := .inl ⟨Nat.zero_le _, by simp, by simp, by simpa using hg⟩
/-- an instruction of no loop -/
theorem Inv.one {C : List In} {res : Res} {k pc : Nat} {s : St} {dn lp tu : Int} (h : Inv C res k pc s dn lp tu) (hp : pc < C.length) (h10 : C[pc].op ≠ 10) (h11 : C[pc].op ≠ 11) : (one C[pc] s = none → res = ⟨s, wrap64 (dn + 1), (pc : Int)⟩) ∧ ∀ s', one C[pc] s = some s' → ∃ k', k' < k ∧ Inv C res k' (pc + 1) s' (wrap64 (dn + 1)) lp tu := by
  rcases h with h | ⟨j, m, x, e, b, l, h⟩
  · have ha := h.aa
    have hg := h.gg
    rw [List.drop_eq_getElem_cons hp] at ha hg
    obtain ⟨-, g2, -⟩ := go_head hg
    refine ⟨fun h1 => ?_, fun s' h1 => ?_⟩
    · rw [allF_none h10 h1] at ha
      exact ha.symm
    · rw [allF_some h10 h1] at ha
      refine ⟨_, ?_, .inl ⟨hp, rfl, ha, g2 h10⟩⟩
      rw [h.kk, mul_next hp]
      have : 0 < bnd C := by unfold bnd; omega
      omega
  · have hat := h.at
    have hm := h.mm
    rw [List.drop_eq_getElem_cons hp] at hat
    have hlt : m < b.length := by
      apply Nat.lt_of_le_of_ne hm
      intro e1
      rw [List.drop_of_length_le (l := b) (by omega), List.nil_append] at hat
      injection hat with q1 q2
      rw [q1] at h11
      exact h11 h.eo
    have hb := List.drop_eq_getElem_cons hlt
    rw [hb, List.cons_append] at hat
    injection hat with q1 q2
    have ha := h.aa
    rw [hb, ← q1] at ha
    refine ⟨fun h1 => ?_, fun s' h1 => ?_⟩
    · rw [runF_none h1, strayL (show ¬ ((pc : Int) < 0) by omega)] at ha
      exact ha.symm
    · rw [runF_some h1] at ha
      refine ⟨_, ?_, .inr ⟨j, m + 1, x, e, b, l, h.cc, h.oo, h.pl, h.eo, h.t0, h.t1, h.t3, h.gg, h.ll, hlt, by have := h.pp; omega, ha, rfl⟩⟩
      rw [h.kk]
      omega
theorem mem_plain {C : List In} {res : Res} {k pc : Nat} {s : St} {dn lp tu : Int} {j m : Nat} {x e : In} {b l : List In} (h : InB C res k pc s dn lp tu j m x e b l) (hp : pc < C.length) : (m < b.length → C[pc].op ≠ 10 ∧ C[pc].op ≠ 11) ∧ (m = b.length → C[pc] = e ∧ C.drop (pc + 1) = l) := by
  have hat := h.at
  rw [List.drop_eq_getElem_cons hp] at hat
  refine ⟨fun hlt => ?_, fun he => ?_⟩
  · have hb := List.drop_eq_getElem_cons hlt
    rw [hb, List.cons_append] at hat
    injection hat with q1 q2
    rw [q1]
    exact h.pl _ (List.getElem_mem _)
  · rw [List.drop_of_length_le (l := b) (by omega), List.nil_append] at hat
    injection hat with q1 q2
    exact ⟨q1, q2⟩
/-- a loop begins -/
theorem Inv.loop {C : List In} {res : Res} {k pc : Nat} {s : St} {dn lp tu : Int} (h : Inv C res k pc s dn lp tu) (hp : pc < C.length) (h10 : C[pc].op = 10) : ∃ k', k' < k ∧ Inv C res k' (pc + 1) ⟨upd s.R C[pc].r 0, s.M⟩ (wrap64 (dn + 1)) (pc : Int) 0 := by
  rcases h with h | ⟨j, m, x, e, b, l, h⟩
  · have ha := h.aa
    have hg := h.gg
    have hd := List.drop_eq_getElem_cons hp
    rw [hd] at ha hg
    obtain ⟨-, -, g3⟩ := go_head hg
    obtain ⟨n1, n2, g4⟩ := g3 h10
    obtain ⟨b, e, l, hdr, hpl, heI, hgl⟩ := cut_of _ g4
    rw [hdr, enterF (n := (C[pc].n - 1 - 0).toNat) h10 hpl heI (by omega)] at ha
    refine ⟨_, ?_, .inr ⟨pc, 0, C[pc], e, b, l, by rw [hd, hdr], h10, hpl, heI, Int.le_refl _, by omega, n2, hgl, rfl, Nat.zero_le _, rfl, by simpa using ha, rfl⟩⟩
    rw [h.kk, mul_next hp]
    have hl := congrArg List.length hdr
    simp at hl
    have h1 : (C[pc].n - 1 - 0).toNat * (C.length + 1) ≤ 299 * (C.length + 1) := Nat.mul_le_mul_right _ (by omega)
    have h2 : bnd C = 301 * (C.length + 2) := rfl
    omega
  · obtain ⟨q1, q2⟩ := mem_plain h hp
    by_cases hlt : m < b.length
    · exact absurd h10 (q1 hlt).1
    · have := (q2 (by have := h.mm; omega)).1
      rw [this, h.eo] at h10
      exact absurd h10 (by decide)
/-- a loop's end -/
theorem Inv.end_ {C : List In} {res : Res} {k pc : Nat} {s : St} {dn lp tu : Int} (h : Inv C res k pc s dn lp tu) (hp : pc < C.length) (h11 : C[pc].op = 11) : ∃ (j : Nat) (hj : j < C.length), lp = (j : Int) ∧ C[j].op = 10 ∧ 0 ≤ tu ∧ tu < 300 ∧ (tu + 1 < C[j].n → ∃ k', k' < k ∧ Inv C res k' (j + 1) ⟨upd s.R C[j].r (tu + 1), s.M⟩ (wrap64 (dn + 1)) (j : Int) (tu + 1)) ∧ (¬ tu + 1 < C[j].n → ∃ k', k' < k ∧ Inv C res k' (pc + 1) s (wrap64 (dn + 1)) (j : Int) (tu + 1)) := by
  rcases h with h | ⟨j, m, x, e, b, l, h⟩
  · have hg := h.gg
    rw [List.drop_eq_getElem_cons hp] at hg
    exact absurd h11 (go_head hg).1
  · obtain ⟨q1, q2⟩ := mem_plain h hp
    have hm := h.mm
    have hmb : m = b.length := by
      apply Nat.le_antisymm hm
      apply Nat.le_of_not_lt
      intro hlt
      exact (q1 hlt).2 h11
    obtain ⟨q3, q4⟩ := q2 hmb
    obtain ⟨hj, h1, h2⟩ := drop_get h.cc
    have ha := h.aa
    rw [List.drop_of_length_le (by omega), runF] at ha
    have hln := h.len
    have hpc := h.pp
    refine ⟨j, hj, h.ll, by rw [h1]; exact h.oo, h.t0, by have := h.t1; have := h.t3; omega, fun hlt => ?_, fun hlt => ?_⟩
    · rw [h1] at hlt
      have e1 : (x.n - 1 - tu).toNat = (x.n - 1 - (tu + 1)).toNat + 1 := by omega
      rw [e1, againL (show (-1 : Int) < 0 by decide)] at ha
      refine ⟨_, ?_, .inr ⟨j, 0, x, e, b, l, h.cc, h.oo, h.pl, h.eo, by have := h.t0; omega, hlt, h.t3, h.gg, rfl, Nat.zero_le _, rfl, by rw [h1, List.drop_zero]; exact ha, rfl⟩⟩
      rw [h.kk, e1, Nat.succ_mul]
      omega
    · rw [h1] at hlt
      have ht1 := h.t1
      have e1 : (x.n - 1 - tu).toNat = 0 := by omega
      rw [e1, doneL (show (-1 : Int) < 0 by decide)] at ha
      have e2 : j + 1 + b.length + 1 = pc + 1 := by omega
      rw [e2] at ha
      refine ⟨_, ?_, .inl ⟨hp, rfl, by rw [q4]; exact ha, by rw [q4]; exact h.gg⟩⟩
      rw [h.kk]
      have : (C.length - (pc + 1)) * bnd C ≤ (C.length - (j + 1)) * bnd C := Nat.mul_le_mul_right _ (by omega)
      omega
end Em
end Go.Proofs.YtkgbmgpdehmiiaaDoor
