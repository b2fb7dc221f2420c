import Derived.Test.YtbiomnnlpafciaaDoorT07
set_option linter.unusedVariables false
set_option linter.unusedSimpArgs false
set_option maxHeartbeats 64000000
set_option maxRecDepth 100000
namespace Go.Proofs.YtbiomnnlpafciaaDoor
open Go.RowKit Go.IntWalk
set_option linter.unusedVariables false
set_option linter.unusedSimpArgs false
namespace Em
open Lo Cd
/-- 1 and the greatest register that an instruction is into, or so many -/
def rg (R : Int) (l : List In) : Int := l.foldl (fun a i => max a (i.r + 1)) R
theorem rg_app (R : Int) (a b : List In) : rg R (a ++ b) = rg (rg R a) b := by unfold rg; rw [List.foldl_append]
theorem rg_le : ∀ (l : List In) (R : Int), R ≤ rg R l
  | [], R => Int.le_refl _
  | x :: l, R => by
    have := rg_le l (max R (x.r + 1))
    unfold rg at *
    rw [List.foldl_cons]
    omega
theorem rg_mem : ∀ (l : List In) (R : Int), ∀ x ∈ l, x.r + 1 ≤ rg R l
  | [], R, x, h => by cases h
  | y :: l, R, x, h => by
    have h1 := rg_le l (max R (y.r + 1))
    have h2 := rg_mem l (max R (y.r + 1)) x
    unfold rg at *
    rw [List.foldl_cons]
    rcases List.mem_cons.1 h with rfl | h
    · omega
    · exact h2 h
/-- step by step: the first one with whose code there is too much, or all code and its registers -/
def mkS : List Sp → Int → List In → Int → Int ⊕ (List In × Int)
  | [], _, C, R => .inr (C, R)
  | x :: S, i, C, R => if 200000 < ((C ++ es x).length : Int) ∨ 40 < rg R (es x) then .inl i else mkS S (i + 1) (C ++ es x) (rg R (es x))
def noIm : Im := ⟨0, 0, 0, [], [], [], []⟩
def img (L : Lp) (B : List Int) (C : List In) (R : Int) : Im := ⟨L.c, R, Cd.cost 10 11 C, L.P, B, L.G, C⟩
/-- what is made of loops -/
def make (L : Lp) (B : List Int) : (Int × Int) × Im :=
  if (Lo.fault L).1 ≠ 0 then (Lo.fault L, noIm)
  else match mkS L.S 0 [] 3 with
    | .inl i => ((7, i), noIm)
    | .inr (C, R) => if (Cd.fault (img L B C R)).1 ≠ 0 then (Cd.fault (img L B C R), noIm) else ((0, 0), img L B C R)
theorem mkS_ok : ∀ (S : List Sp) (i : Int) (C : List In) (R : Int) {C' : List In} {R' : Int}, mkS S i C R = .inr (C', R') → C.length ≤ 200000 → R ≤ 40 → C' = C ++ (S.map es).flatten ∧ R' = rg R (S.map es).flatten ∧ C'.length ≤ 200000 ∧ R' ≤ 40
  | [], i, C, R, C', R', h, h1, h2 => by
    unfold mkS at h
    injection h with h
    injection h with e1 e2
    subst e1 e2
    simp [rg]
    omega
  | x :: S, i, C, R, C', R', h, h1, h2 => by
    unfold mkS at h
    split at h
    · cases h
    rename_i hc
    obtain ⟨e1, e2, e3, e4⟩ := mkS_ok S _ _ _ h (by omega) (by omega)
    refine ⟨?_, ?_, e3, e4⟩
    · rw [e1, List.map_cons, List.flatten_cons, List.append_assoc]
    · rw [e2, List.map_cons, List.flatten_cons, rg_app]
/-- at each step the stack's registers are there -/
structure Rs (c R : Int) (i : In) : Prop where
  ok : Cd.bars c R i = false
  b : I64 i.b
theorem has_of {c v n : Int} (h : hasN c v n = true) : Cd.has c v n = true := h
theorem lk_no {R x : Int} (h0 : 0 ≤ x) (h1 : x < R) : Cd.lk R x = false := by
  unfold Cd.lk
  rw [decide_eq_false (by omega), decide_eq_false (by omega)]
  rfl
theorem lacks1 {R x : Int} (hx : 0 ≤ x ∧ x < R) : Cd.lacks R [x] = false := by
  simp only [Cd.lacks, List.any_cons, List.any_nil, lk_no hx.1 hx.2, Bool.or_false]
theorem lacks2 {R x y : Int} (hx : 0 ≤ x ∧ x < R) (hy : 0 ≤ y ∧ y < R) : Cd.lacks R [x, y] = false := by
  simp only [Cd.lacks, List.any_cons, List.any_nil, lk_no hx.1 hx.2, lk_no hy.1 hy.2, Bool.or_false]
theorem lacks3 {R x y z : Int} (hx : 0 ≤ x ∧ x < R) (hy : 0 ≤ y ∧ y < R) (hz : 0 ≤ z ∧ z < R) : Cd.lacks R [x, y, z] = false := by
  simp only [Cd.lacks, List.any_cons, List.any_nil, lk_no hx.1 hx.2, lk_no hy.1 hy.2, lk_no hz.1 hz.2, Bool.or_false]
theorem i64_0 : I64 0 := by unfold I64; omega
theorem b1 {c R r n : Int} (hr : 0 ≤ r ∧ r < R) : Rs c R ⟨1, 0, r, 0, 0, n⟩ := ⟨by simp [Cd.bars, lacks1 hr], i64_0⟩
theorem b2 {c R r n : Int} (hr : 0 ≤ r ∧ r < R) (hn : hasN c n 1 = true) : Rs c R ⟨2, 0, r, 0, 0, n⟩ := ⟨by simp [Cd.bars, lacks1 hr, has_of hn], i64_0⟩
theorem b4 {c R r n : Int} (hr : 0 ≤ r ∧ r < R) (hn : hasN c n 1 = true) : Rs c R ⟨4, 0, r, 0, 0, n⟩ := ⟨by simp [Cd.bars, lacks1 hr, has_of hn], i64_0⟩
theorem hasN_I64 {c v n : Int} (hc : 1 ≤ c ∧ c ≤ 6000) (hn : 1 ≤ n) (h : hasN c v n = true) : I64 n ∧ I64 v := by
  unfold hasN at h
  rw [Bool.and_eq_true, decide_eq_true_iff, decide_eq_true_iff] at h
  unfold I64
  omega
theorem b3 {c R r a n t : Int} (hc : 1 ≤ c ∧ c ≤ 6000) (hr : 0 ≤ r ∧ r < R) (ha : 0 ≤ a ∧ a < R) (ht : 1 ≤ t) (hn : hasN c n t = true) : Rs c R ⟨3, 0, r, a, t, n⟩ := ⟨by
  have : ¬ t < 1 := by omega
  simp [Cd.bars, lacks2 hr ha, has_of hn, this], (hasN_I64 hc ht hn).1⟩
theorem b5 {c R r a n t : Int} (hc : 1 ≤ c ∧ c ≤ 6000) (hr : 0 ≤ r ∧ r < R) (ha : 0 ≤ a ∧ a < R) (ht : 1 ≤ t) (hn : hasN c n t = true) : Rs c R ⟨5, 0, r, a, t, n⟩ := ⟨by
  have : ¬ t < 1 := by omega
  simp [Cd.bars, lacks2 hr ha, has_of hn, this], (hasN_I64 hc ht hn).1⟩
theorem b6 {c R r a k : Int} (hr : 0 ≤ r ∧ r < R) (ha : 0 ≤ a ∧ a < R) (hk : (Kd.opT k).2.2 = 1) : Rs c R ⟨6, k, r, a, 0, 0⟩ := ⟨by simp [Cd.bars, lacks2 hr ha, hk], i64_0⟩
theorem b7 {c R r a b k : Int} (hR : R ≤ 40) (hr : 0 ≤ r ∧ r < R) (ha : 0 ≤ a ∧ a < R) (hb : 0 ≤ b ∧ b < R) (hk : (Kd.opT k).2.2 = 2) : Rs c R ⟨7, k, r, a, b, 0⟩ := ⟨by simp [Cd.bars, lacks3 hr ha hb, hk], by show I64 b; unfold I64; omega⟩
theorem b8 {c R r a b : Int} (hR : R ≤ 40) (hr : 0 ≤ r ∧ r < R) (ha : 0 ≤ a ∧ a < R) (hb : 0 ≤ b ∧ b < R) : Rs c R ⟨8, 0, r, a, b, 0⟩ := ⟨by simp [Cd.bars, lacks3 hr ha hb], by show I64 b; unfold I64; omega⟩
theorem b9 {c R r a : Int} (hr : 0 ≤ r ∧ r < R) (ha : 0 ≤ a ∧ a < R) : Rs c R ⟨9, 0, r, a, 0, 0⟩ := ⟨by simp [Cd.bars, lacks2 hr ha], i64_0⟩
theorem k8 : (Kd.opT 8).2.2 = 2 := by decide +kernel
theorem k14 : (Kd.opT 14).2.2 = 1 := by decide +kernel
theorem k10 : (Kd.opT 10).2.2 = 2 := by decide +kernel
theorem k1 : (Kd.opT 1).2.2 = 2 := by decide +kernel
/-- the code of a step of a tree may be run, where the stack's registers are there -/
theorem ep_ok {c R n t h : Int} {p : Pu} (hc : 1 ≤ c ∧ c ≤ 6000) (hR : 3 ≤ R ∧ R ≤ 40) (hp : pushOK c n p = true) (ht : (t = 0 ∧ n = 1) ∨ (1 ≤ t ∧ n = t)) (hh : tk p.op ≤ h) (hs : 2 + h ≤ R) (hm : ∀ i ∈ ep p (2 + h) t, i.r + 1 ≤ R) : (∀ i ∈ ep p (2 + h) t, Rs c R i) ∧ 2 + (h - tk p.op + 1) ≤ R := by
  unfold pushOK at hp
  by_cases o1 : p.op = 1
  · have e : ep p (2 + h) t = [⟨1, 0, 2 + h, 0, 0, p.n⟩] := by simp [ep, o1]
    have et : tk p.op = 0 := by simp [tk, o1]
    rw [e] at hm ⊢
    rw [et] at hh ⊢
    have h1 := hm _ (List.mem_singleton.2 rfl)
    dsimp only at h1
    refine ⟨fun i hi => ?_, by omega⟩
    rw [List.mem_singleton] at hi
    subst hi
    exact b1 (by omega)
  by_cases o2 : p.op = 2
  · have e : ep p (2 + h) t = [⟨2, 0, 2 + h, 0, 0, p.v⟩] := by simp [ep, o2]
    have et : tk p.op = 0 := by simp [tk, o2]
    rw [if_neg (by omega), if_pos o2] at hp
    rw [e] at hm ⊢
    rw [et] at hh ⊢
    have h1 := hm _ (List.mem_singleton.2 rfl)
    dsimp only at h1
    refine ⟨fun i hi => ?_, by omega⟩
    rw [List.mem_singleton] at hi
    subst hi
    exact b2 (by omega) hp
  by_cases o3 : p.op = 3
  · have et : tk p.op = 0 := by simp [tk, o3]
    rw [if_neg (by omega), if_neg o2, if_pos o3] at hp
    rw [et] at hh ⊢
    rcases ht with ⟨t0, n1⟩ | ⟨t1, nt⟩
    · have e : ep p (2 + h) t = [⟨2, 0, 2 + h, 0, 0, p.v⟩] := by simp [ep, o3, t0]
      rw [e] at hm ⊢
      have h1 := hm _ (List.mem_singleton.2 rfl)
      dsimp only at h1
      refine ⟨fun i hi => ?_, by omega⟩
      rw [List.mem_singleton] at hi
      subst hi
      rw [n1] at hp
      exact b2 (by omega) hp
    · have e : ep p (2 + h) t = [⟨3, 0, 2 + h, 0, t, p.v⟩] := by
        have : ¬ t = 0 := by omega
        simp [ep, o3, this]
      rw [e] at hm ⊢
      have h1 := hm _ (List.mem_singleton.2 rfl)
      dsimp only at h1
      refine ⟨fun i hi => ?_, by omega⟩
      rw [List.mem_singleton] at hi
      subst hi
      rw [nt] at hp
      exact b3 hc (by omega) (by omega) t1 hp
  by_cases o4 : p.op = 4
  · have et : tk p.op = 0 := by simp [tk, o4]
    rw [et] at hh ⊢
    rcases ht with ⟨t0, n1⟩ | ⟨t1, nt⟩
    · have e : ep p (2 + h) t = [⟨1, 0, 2 + h, 0, 0, p.n⟩] := by simp [ep, o4, t0]
      rw [e] at hm ⊢
      have h1 := hm _ (List.mem_singleton.2 rfl)
      dsimp only at h1
      refine ⟨fun i hi => ?_, by omega⟩
      rw [List.mem_singleton] at hi
      subst hi
      exact b1 (by omega)
    · have e : ep p (2 + h) t = [⟨1, 0, 2 + h, 0, 0, p.n⟩, ⟨7, 1, 2 + h, 2 + h, 0, 0⟩] := by
        have : 0 < t := by omega
        simp [ep, o4, this]
      rw [e] at hm ⊢
      have h1 := hm ⟨1, 0, 2 + h, 0, 0, p.n⟩ (by simp)
      dsimp only at h1
      refine ⟨fun i hi => ?_, by omega⟩
      simp at hi
      rcases hi with rfl | rfl
      · exact b1 (by omega)
      · exact b7 hR.2 (by omega) (by omega) (by omega) k1
  by_cases o5 : p.op = 5
  · have et : tk p.op = 1 := by simp [tk, o5]
    have e : ep p (2 + h) t = [⟨6, p.k, 2 + h - 1, 2 + h - 1, 0, 0⟩] := by simp [ep, o5]
    rw [if_neg (by omega), if_neg o2, if_neg o3, if_neg o4, if_pos o5] at hp
    rw [e] at hm ⊢
    rw [et] at hh ⊢
    refine ⟨fun i hi => ?_, by omega⟩
    rw [List.mem_singleton] at hi
    subst hi
    exact b6 (by omega) (by omega) (by simpa using hp)
  by_cases o6 : p.op = 6
  · have et : tk p.op = 2 := by simp [tk, o6]
    have e : ep p (2 + h) t = [⟨7, p.k, 2 + h - 2, 2 + h - 2, 2 + h - 1, 0⟩] := by simp [ep, o6]
    rw [if_neg (by omega), if_neg o2, if_neg o3, if_neg o4, if_neg o5, if_pos o6] at hp
    rw [e] at hm ⊢
    rw [et] at hh ⊢
    refine ⟨fun i hi => ?_, by omega⟩
    rw [List.mem_singleton] at hi
    subst hi
    exact b7 hR.2 (by omega) (by omega) (by omega) (by simpa using hp)
  by_cases o7 : p.op = 7
  · have et : tk p.op = 3 := by simp [tk, o7]
    have e : ep p (2 + h) t = [⟨8, 0, 2 + h - 3, 2 + h - 2, 2 + h - 1, 0⟩] := by simp [ep, o7]
    rw [e] at hm ⊢
    rw [et] at hh ⊢
    refine ⟨fun i hi => ?_, by omega⟩
    rw [List.mem_singleton] at hi
    subst hi
    exact b8 hR.2 (by omega) (by omega) (by omega)
  by_cases o8 : p.op = 8
  · have et : tk p.op = 2 := by simp [tk, o8]
    have e : ep p (2 + h) t = [⟨1, 0, 2 + h, 0, 0, 0⟩, ⟨7, 8, 2 + h + 1, 2 + h - 2, 2 + h, 0⟩, ⟨6, 14, 2 + h + 1, 2 + h + 1, 0, 0⟩, ⟨1, 0, 2 + h + 2, 0, 0, p.n⟩, ⟨7, 8, 2 + h + 2, 2 + h - 2, 2 + h + 2, 0⟩, ⟨7, 10, 2 + h + 1, 2 + h + 1, 2 + h + 2, 0⟩, ⟨9, 0, 2 + h + 2, 2 + h + 1, 0, 0⟩, ⟨8, 0, 2 + h + 2, 2 + h - 2, 2 + h, 0⟩, ⟨3, 0, 2 + h + 2, 2 + h + 2, p.n, p.v⟩, ⟨8, 0, 2 + h + 1, 2 + h + 2, 2 + h - 1, 0⟩, ⟨9, 0, 2 + h - 2, 2 + h + 1, 0, 0⟩] := by simp [ep, o8]
    rw [if_neg (by omega), if_neg o2, if_neg o3, if_neg o4, if_neg o5, if_neg o6, if_pos o8, Bool.and_eq_true, decide_eq_true_iff] at hp
    rw [e] at hm ⊢
    rw [et] at hh ⊢
    have h1 := hm ⟨1, 0, 2 + h + 2, 0, 0, p.n⟩ (by simp)
    dsimp only at h1
    refine ⟨fun i hi => ?_, by omega⟩
    simp only [List.mem_cons, List.not_mem_nil, or_false] at hi
    rcases hi with rfl | rfl | rfl | rfl | rfl | rfl | rfl | rfl | rfl | rfl | rfl
    · exact b1 (by omega)
    · exact b7 hR.2 (by omega) (by omega) (by omega) k8
    · exact b6 (by omega) (by omega) k14
    · exact b1 (by omega)
    · exact b7 hR.2 (by omega) (by omega) (by omega) k8
    · exact b7 hR.2 (by omega) (by omega) (by omega) k10
    · exact b9 (by omega) (by omega)
    · exact b8 hR.2 (by omega) (by omega) (by omega)
    · exact b3 hc (by omega) (by omega) hp.1 hp.2
    · exact b8 hR.2 (by omega) (by omega) (by omega)
    · exact b9 (by omega) (by omega)
  · simp [o1, o2, o3, o4, o5, o6, o7, o8] at hp
theorem et_from {c R n t : Int} {E : List Pu} (hf : Fit c n E) (hc : 1 ≤ c ∧ c ≤ 6000) (hR : 3 ≤ R ∧ R ≤ 40) (ht : (t = 0 ∧ n = 1) ∨ (1 ≤ t ∧ n = t)) : ∀ (m i : Nat), m + i = E.length → 2 + ((stk [] 0 E i).length : Int) ≤ R → (∀ x ∈ et (E.drop i) (2 + ((stk [] 0 E i).length : Int)) t, x.r + 1 ≤ R) → ∀ x ∈ et (E.drop i) (2 + ((stk [] 0 E i).length : Int)) t, Rs c R x
  | 0, i, e, hs, hm => by
    have : i = E.length := by omega
    subst this
    rw [List.drop_length]
    intro x hx
    simp [et] at hx
  | m + 1, i, e, hs, hm => by
    have hi : i < E.length := by omega
    obtain ⟨h1, h2, h3⟩ := hf.at' [] 0 i hi
    have hl := stp_len (M := []) (k := 0) h1
    rw [← stk_succ [] 0 E hi] at hl
    rw [List.drop_eq_getElem_cons hi, et] at hm ⊢
    obtain ⟨p1, p2⟩ := ep_ok hc hR h2 ht h1 hs (fun x hx => hm x (List.mem_append.2 (.inl hx)))
    have e2 : er E[i] (2 + ((stk [] 0 E i).length : Int)) = 2 + ((stk [] 0 E (i + 1)).length : Int) := by unfold er; omega
    rw [e2] at hm ⊢
    have q := et_from hf hc hR ht m (i + 1) (by omega) (by omega) (fun x hx => hm x (List.mem_append.2 (.inr hx)))
    intro x hx
    rcases List.mem_append.1 hx with h | h
    · exact p1 x h
    · exact q x h
theorem et_ok {c R n t : Int} {E : List Pu} (hf : Fit c n E) (hc : 1 ≤ c ∧ c ≤ 6000) (hR : 3 ≤ R ∧ R ≤ 40) (ht : (t = 0 ∧ n = 1) ∨ (1 ≤ t ∧ n = t)) (hm : ∀ x ∈ et E 2 t, x.r + 1 ≤ R) : ∀ x ∈ et E 2 t, Rs c R x := by
  have := et_from hf hc hR ht E.length 0 (by omega) (by rw [stk_zero]; simp; omega)
  rw [stk_zero] at this
  simp only [List.drop_zero, List.length_nil, Int.natCast_zero, Int.add_zero] at this
  exact this hm
structure Okx (c : Int) (x : Sp) : Prop extends Ok c x where
  K : x.op = 3 ∨ x.op = 4 → (Kd.opT x.k).2.2 = 2
theorem okx_of {c : Int} {s : Sp} (h : Lo.bars c s = false) : Okx c s := by
  refine ⟨ok_of h, fun hf => ?_⟩
  unfold Lo.bars at h
  split at h
  · cases h
  split at h
  · cases h
  split at h
  · cases h
  have : folds s = true := by unfold folds; rcases hf with h | h <;> simp [h]
  rw [this, Bool.true_and] at h
  have h4 : (treeOK c 1 s.F && (Kd.opT s.k).2.2 == 2) = true := by simpa using h
  rw [Bool.and_eq_true] at h4
  simpa using h4.2
/-- the code of a step may be run -/
theorem es_ok {c R : Int} {x : Sp} (h : Okx c x) (hc : 1 ≤ c ∧ c ≤ 6000) (hR : 3 ≤ R ∧ R ≤ 40) (hm : ∀ i ∈ es x, i.r + 1 ≤ R) : ∀ i ∈ es x, Rs c R i := by
  have hE := h.E
  have ht := h.tgt
  unfold made turns at ht
  unfold turns at hE
  by_cases o1 : x.op = 1
  · rw [if_pos o1] at hE
    rw [if_neg (by omega), if_pos o1] at ht
    unfold es at hm ⊢
    rw [if_pos o1] at hm ⊢
    intro i hi
    rcases List.mem_append.1 hi with hi | hi
    · exact et_ok hE hc hR (.inl ⟨rfl, rfl⟩) (fun y hy => hm y (List.mem_append.2 (.inl hy))) i hi
    · rw [List.mem_singleton] at hi
      subst hi
      exact b4 (by omega) (by unfold hasN; rw [decide_eq_true ht.1, decide_eq_true (by omega)]; rfl)
  rw [if_neg o1] at hE ht
  have hn := h.n o1
  have hop := h.op
  unfold es at hm ⊢
  rw [if_neg o1] at hm ⊢
  intro i hi
  rw [List.mem_append] at hi
  rcases hi with hi | hi
  · have hmm := fun y hy => hm y (List.mem_append.2 (.inl hy))
    split at hi
    · rename_i hf
      rw [if_pos hf] at hmm
      rcases List.mem_append.1 hi with hi | hi
      · exact et_ok (h.F hf) hc hR (.inl ⟨rfl, rfl⟩) (fun y hy => hmm y (List.mem_append.2 (.inl hy))) i hi
      · rw [List.mem_singleton] at hi
        subst hi
        exact b9 (by omega) (by omega)
    · cases hi
  · have hmm := fun y hy => hm y (List.mem_append.2 (.inr hy))
    rcases List.mem_cons.1 hi with rfl | hi
    · refine ⟨?_, i64_0⟩
      simp [Cd.bars, lacks1 (R := R) (x := 0) (by omega), Cd.turn, hn.1, hn.2]
    rw [List.mem_append] at hi
    have hsto : hasN c x.tgt x.n = true ∨ x.op = 3 := by
      by_cases o3 : x.op = 3
      · exact .inr o3
      · rw [if_neg o3] at ht
        exact .inl (by unfold hasN; rw [decide_eq_true ht.1, decide_eq_true (by omega)]; rfl)
    rcases hi with hi | hi
    · rw [List.mem_append] at hi
      rcases hi with hi | hi
      · exact et_ok hE hc hR (.inr ⟨hn.1, rfl⟩) (fun y hy => hmm y (List.mem_cons.2 (.inr (List.mem_append.2 (.inl (List.mem_append.2 (.inl hy))))))) i hi
      · unfold mid at hi
        split at hi
        · rename_i o2
          rw [List.mem_singleton] at hi
          subst hi
          exact b5 hc (by omega) (by omega) hn.1 (hsto.resolve_right (by omega))
        split at hi
        · rename_i o3
          rw [List.mem_singleton] at hi
          subst hi
          exact b7 hR.2 (by omega) (by omega) (by omega) (h.K (.inl o3))
        · rename_i o2 o3
          simp at hi
          rcases hi with rfl | rfl
          · exact b7 hR.2 (by omega) (by omega) (by omega) (h.K (.inr (by omega)))
          · exact b5 hc (by omega) (by omega) hn.1 (hsto.resolve_right o3)
    · rcases List.mem_cons.1 hi with rfl | hi
      · exact ⟨by simp [Cd.bars], i64_0⟩
      · split at hi
        · rename_i o3
          rw [if_pos o3] at ht
          rw [List.mem_singleton] at hi
          subst hi
          exact b4 (by omega) (by unfold hasN; rw [decide_eq_true ht.1, decide_eq_true (by omega)]; rfl)
        · cases hi
theorem rs_of {c R : Int} {l : List In} (h : ∀ i ∈ l, Rs c R i) : Cd.idx (Cd.bars c R) 0 l = -1 := (Cd.idx_neg _ l 0).2 (by rw [List.any_eq_false]; exact fun x hx => by rw [(h x hx).ok]; decide)
theorem plain_of {l : List In} (h : plain l) : Cd.plain 10 11 l := h
theorem go_app {a b : List In} (h : plain a) : Cd.go 10 11 none (a ++ b) = (Cd.go 10 11 none b).map fun y => (a.length : Int) + y := Cd.go_append a b none (Cd.go_plain a (plain_of h))
theorem go_loop {x e : In} {b r : List In} (hx : x.op = 10) (he : e.op = 11) (hb : plain b) (hn : 1 ≤ x.n ∧ x.n ≤ 300) {z : Int} (hz : Cd.go 10 11 none r = some z) : ∃ y, Cd.go 10 11 none (x :: (b ++ e :: r)) = some y ∧ z ≤ y := by
  have h1 := Cd.cost_around (l := b) (plain_of hb) hx he (by decide) hn
  have h2 : Cd.go 10 11 none (x :: (b ++ [e])) ≠ none := by
    intro hh
    unfold Cd.cost at h1
    rw [hh] at h1
    have : 0 ≤ x.n * ((b.length : Int) + 1) := Int.mul_nonneg (by omega) (by omega)
    simp at h1
    omega
  cases hg : Cd.go 10 11 none (x :: (b ++ [e])) with
  | none => exact absurd hg h2
  | some y =>
    have h3 := Cd.go_append _ r none hg
    rw [hz] at h3
    have hy := Cd.go_nonneg _ none (fun m e => by cases e) hg
    refine ⟨y + z, ?_, by omega⟩
    rw [← List.singleton_append, List.append_assoc] at *
    simpa using h3
/-- the code of a step costs something, and what is behind it is reckoned by itself -/
theorem es_cost {c : Int} {x : Sp} (h : Ok c x) {r : List In} {z : Int} (hz : Cd.go 10 11 none r = some z) (h0 : 0 ≤ z) : ∃ y, Cd.go 10 11 none (es x ++ r) = some y ∧ 0 < y := by
  have hst : plain [⟨4, 0, 2, 0, 0, x.tgt⟩] := fun y hy => by simp at hy; subst hy; simp
  have hst1 : plain [⟨4, 0, 1, 0, 0, x.tgt⟩] := fun y hy => by simp at hy; subst hy; simp
  have hmv : plain [⟨9, 0, 1, 2, 0, 0⟩] := fun y hy => by simp at hy; subst hy; simp
  unfold es
  by_cases o1 : x.op = 1
  · rw [if_pos o1, go_app (plain_app (et_plain _ _ _) hst), hz]
    refine ⟨_, rfl, ?_⟩
    simp
    omega
  rw [if_neg o1]
  have hn := h.n o1
  obtain ⟨z2, g1, g2⟩ : ∃ z2, Cd.go 10 11 none ((if x.op = 3 then [(⟨4, 0, 1, 0, 0, x.tgt⟩ : In)] else []) ++ r) = some z2 ∧ 0 ≤ z2 := by
    split
    · rw [go_app hst1, hz]
      exact ⟨_, rfl, by simp; omega⟩
    · exact ⟨z, hz, h0⟩
  have hq : ∃ y, Cd.go 10 11 none ((⟨10, 0, 0, 0, 0, x.n⟩ : In) :: ((et x.E 2 x.n ++ mid x) ++ ⟨11, 0, 0, 0, 0, 0⟩ :: ((if x.op = 3 then [(⟨4, 0, 1, 0, 0, x.tgt⟩ : In)] else []) ++ r))) = some y ∧ 0 < y := by
    obtain ⟨y, e1, e2⟩ := go_loop (x := ⟨10, 0, 0, 0, 0, x.n⟩) (e := ⟨11, 0, 0, 0, 0, 0⟩) rfl rfl (plain_app (et_plain x.E 2 x.n) (mid_plain x)) hn g1
    refine ⟨y, e1, ?_⟩
    rw [Cd.go_cons, Cd.step] at e1
    dsimp only at e1
    rw [if_neg (by decide), if_pos rfl, if_pos hn] at e1
    simp only [Option.bind_some] at e1
    cases hg : Cd.go 10 11 (some x.n) ((et x.E 2 x.n ++ mid x) ++ ⟨11, 0, 0, 0, 0, 0⟩ :: ((if x.op = 3 then [(⟨4, 0, 1, 0, 0, x.tgt⟩ : In)] else []) ++ r)) with
    | none => rw [hg] at e1; cases e1
    | some t =>
      rw [hg] at e1
      injection e1 with e1
      have := Cd.go_nonneg _ (some x.n) (fun m e => by injection e with e; omega) hg
      dsimp only at e1
      omega
  obtain ⟨y, e1, e2⟩ := hq
  have hF : plain (if x.op = 3 ∨ x.op = 4 then et x.F 2 0 ++ [(⟨9, 0, 1, 2, 0, 0⟩ : In)] else []) := by
    split
    · exact plain_app (et_plain _ _ _) hmv
    · exact fun y hy => by cases hy
  rw [List.append_assoc, List.cons_append, List.append_assoc, List.cons_append, go_app hF, e1]
  refine ⟨_, rfl, ?_⟩
  dsimp only
  omega
theorem code_cost {c : Int} : ∀ (S : List Sp), (∀ x ∈ S, Ok c x) → ∃ y, Cd.go 10 11 none (S.map es).flatten = some y ∧ 0 ≤ y ∧ (S ≠ [] → 0 < y)
  | [], _ => ⟨0, rfl, Int.le_refl _, fun h => absurd rfl h⟩
  | x :: S, h => by
    obtain ⟨z, h1, h2, -⟩ := code_cost S (fun y hy => h y (by simp [hy]))
    obtain ⟨y, h3, h4⟩ := es_cost (h x (by simp)) h1 h2
    exact ⟨y, h3, by omega, fun _ => h4⟩
theorem okx_all {L : Lp} (h : (Lo.fault L).1 = 0) : (1 ≤ L.c ∧ L.c ≤ 6000) ∧ (L.P.length ≤ 6000 ∧ L.G.length ≤ 120000) ∧ (∀ x ∈ L.P, 0 ≤ x ∧ x < L.c) ∧ (∀ x ∈ L.G, 0 ≤ x ∧ x < L.c) ∧ ∀ s ∈ L.S, Okx L.c s := by
  have hg := good_of h
  unfold Lo.fault at h
  split at h
  · cases h
  split at h
  · cases h
  split at h
  · cases h
  split at h
  · cases h
  rename_i h3
  exact ⟨hg.c, by omega, hg.P, hg.G, fun s hs => okx_of (Lo.idx_neg _ _ _ h3 s hs)⟩
/-- all code of loops may be run -/
theorem code_ok {c R : Int} (hc : 1 ≤ c ∧ c ≤ 6000) (hR : 3 ≤ R ∧ R ≤ 40) {S : List Sp} (h : ∀ s ∈ S, Okx c s) (hm : ∀ i ∈ (S.map es).flatten, i.r + 1 ≤ R) : ∀ i ∈ (S.map es).flatten, Rs c R i := by
  intro i hi
  obtain ⟨l, hl, hil⟩ := List.mem_flatten.1 hi
  obtain ⟨s, hs, rfl⟩ := List.mem_map.1 hl
  exact es_ok (h s hs) hc hR (fun y hy => hm y (List.mem_flatten.2 ⟨_, hl, hy⟩)) i hil
/-- what code is made of loops without a fault, it may be run -/
theorem img_ok {L : Lp} (h : (Lo.fault L).1 = 0) {C : List In} {R : Int} (hs : mkS L.S 0 [] 3 = .inr (C, R)) : C = (L.S.map es).flatten ∧ C.length ≤ 200000 ∧ (3 ≤ R ∧ R ≤ 40) ∧ (∀ i ∈ C, Rs L.c R i) ∧ Cd.fault (img L [] C R) = (0, 0) := by
  obtain ⟨h1, h2, h3, h4, h5⟩ := okx_all h
  obtain ⟨e1, e2, e3, e4⟩ := mkS_ok L.S 0 [] 3 hs (by simp) (by decide)
  rw [List.nil_append] at e1
  have hR : 3 ≤ R ∧ R ≤ 40 := ⟨by rw [e2]; exact rg_le _ _, e4⟩
  have hrs := code_ok (R := R) h1 hR h5 (fun i hi => by rw [e2]; exact rg_mem _ _ i hi)
  rw [← e1] at hrs
  refine ⟨e1, e3, hR, hrs, ?_⟩
  unfold Cd.fault img
  dsimp only
  have hh : ∀ (l : List Int), (∀ x ∈ l, 0 ≤ x ∧ x < L.c) → (l.any fun x => !Cd.has L.c x 1) = false := fun l hl => by
    rw [List.any_eq_false]
    intro x hx
    have := hl x hx
    have : Cd.has L.c x 1 = true := by unfold Cd.has; rw [decide_eq_true (by omega), decide_eq_true (by omega)]; rfl
    rw [this]
    decide
  rw [if_neg (by omega), if_neg (by simp; omega), if_neg (by simp only [List.any_cons, List.any_nil, hh _ h3, hh _ h4]; decide), if_neg (by rw [rs_of hrs]; decide), if_neg]
  obtain ⟨y, g1, g2, g3⟩ := code_cost L.S (fun s hs => (h5 s hs).toOk)
  rw [← e1] at g1
  have hcst : Cd.cost 10 11 C = y := by unfold Cd.cost; rw [g1]; rfl
  rw [hcst]
  intro hh
  rcases hh with hh | ⟨hh, hl⟩
  · exact hh rfl
  · have : L.S ≠ [] := fun e => by rw [e] at e1; rw [e1] at hl; simp at hl
    have := g3 this
    omega
end Em
end Go.Proofs.YtbiomnnlpafciaaDoor
