import Derived.Test.YtkgbmgpdehmiiaaDoorV20
import Derived.WalkKit
import Derived.WalkSpells
import Derived.IntWalk
import Derived.Deep.Cut
import Derived.Deep.LoopGhost
import Derived.Laws.Cover1
import Derived.Lib.Hide
set_option linter.unusedVariables false
set_option linter.unusedSimpArgs false
set_option maxHeartbeats 64000000
set_option maxRecDepth 100000
namespace Go.Proofs.YtkgbmgpdehmiiaaDoor
open Go.RowKit Go.IntWalk
set_option linter.unusedVariables false
set_option linter.unusedSimpArgs false
namespace Em
open Lo Cd
/-- registers in a list -/
def RX (s : St) (X : List Int) : Prop := ∀ (j : Nat) (h : j < X.length), s.R (j : Int) = X[j]
theorem RX.upd {f : Int → Int} {M M' : List Int} {X : List Int} (h : RX ⟨f, M⟩ X) (r : Nat) (v : Int) : RX ⟨Em.upd f (r : Int) v, M'⟩ (X.set r v) := by
  intro j hj
  have hj2 : j < X.length := by simpa using hj
  show Em.upd f (r : Int) v (j : Int) = _
  by_cases e : j = r
  · subst e
    rw [upd_at]
    simp
  · rw [upd_ne _ _ (by omega)]
    rw [List.getElem_set_ne (by omega)]
    exact h j hj2
theorem RX.same {f : Int → Int} {M M' : List Int} {X : List Int} (h : RX ⟨f, M⟩ X) : RX ⟨f, M'⟩ X := h
theorem lk_ok {R x : Int} (h : Cd.lk R x = false) : 0 ≤ x ∧ x < R := by
  unfold Cd.lk at h
  rw [Bool.or_eq_false_iff, decide_eq_false_iff_not, decide_eq_false_iff_not] at h
  omega
theorem lacks_ok {R : Int} {l : List Int} (h : Cd.lacks R l = false) : ∀ x ∈ l, 0 ≤ x ∧ x < R := fun x hx => by
  unfold Cd.lacks at h
  rw [List.any_eq_false] at h
  exact lk_ok (by simpa using h x hx)
theorem nat_of {x R : Int} (h : 0 ≤ x ∧ x < R) : ∃ n : Nat, x = (n : Int) ∧ (n : Int) < R := ⟨x.toNat, by omega, by omega⟩
theorem wd_get {X : List Int} (h : Wd X) {i : Nat} (hi : i < X.length) : I64 X[i] := h _ (List.getElem_mem hi)
/-- a loop's body ends: up to the first IEnd -/
theorem cut_of {m : Int} : ∀ (L : List In), Cd.go 10 11 (some m) L ≠ none → ∃ b e l, L = b ++ e :: l ∧ plain b ∧ e.op = 11 ∧ Cd.go 10 11 none l ≠ none
  | [], h => by simp [Cd.go] at h
  | x :: L, h => by
    by_cases h11 : x.op = 11
    · refine ⟨[], x, L, rfl, (fun y hy => by cases hy), h11, fun hh => h ?_⟩
      rw [Cd.go_cons, Cd.step]
      try dsimp only
      rw [if_pos h11]
      simp [hh]
    · by_cases h10 : x.op = 10
      · exact absurd (by rw [Cd.go_cons, Cd.step]; (try dsimp only); rw [if_neg h11, if_pos h10]; rfl) h
      · have h2 : Cd.go 10 11 (some m) L ≠ none := fun hh => h (by
          rw [Cd.go_cons, Cd.step]
          try dsimp only
          rw [if_neg h11, if_neg h10]
          simp [hh])
        obtain ⟨b, e, l, e1, e2, e3, e4⟩ := cut_of L h2
        refine ⟨x :: b, e, l, by rw [e1]; rfl, fun y hy => ?_, e3, e4⟩
        rcases List.mem_cons.1 hy with rfl | hy
        · exact ⟨h10, h11⟩
        · exact e2 y hy
theorem go_head {x : In} {l : List In} (h : Cd.go 10 11 none (x :: l) ≠ none) : x.op ≠ 11 ∧ (x.op ≠ 10 → Cd.go 10 11 none l ≠ none) ∧ (x.op = 10 → 1 ≤ x.n ∧ x.n ≤ 300 ∧ Cd.go 10 11 (some x.n) l ≠ none) := by
  rw [Cd.go_cons, Cd.step] at h
  try dsimp only at h
  by_cases h11 : x.op = 11
  · rw [if_pos h11] at h
    exact absurd rfl h
  rw [if_neg h11] at h
  refine ⟨h11, fun h10 hh => ?_, fun h10 => ?_⟩
  · rw [if_neg h10] at h
    simp [hh] at h
  · rw [if_pos h10] at h
    by_cases hn : 1 ≤ x.n ∧ x.n ≤ 300
    · rw [if_pos hn] at h
      refine ⟨hn.1, hn.2, fun hh => ?_⟩
      simp [hh] at h
    · rw [if_neg hn] at h
      exact absurd rfl h
end Em
/-- an instruction, no loop's -/
theorem one62_any {w : World} {gb rb cb nc cc nr cr : Nat} {v0 v1 v2 v3 v4 v5 v6 : Value} {X : List Int} {st : Int} {s s' : Em.St} (hg : GAt w gb cb nc cc v0 v1 v2 v3 v4 v5 v6 st) (hx : LB w rb X) (hm : LB w cb s.M) (hnr : nr = X.length) (hnc : nc ≤ s.M.length) (hX : X.length ≤ 40) (hM : nc ≤ 6000) (n1 : gb ≠ rb) (n2 : gb ≠ cb) (n3 : rb ≠ cb) {x : Cd.In} (hR : Em.Rs (nc : Int) (X.length : Int) x) (h10 : x.op ≠ 10) (h11 : x.op ≠ 11) (hn : I64 x.n) (hs : Em.RX s X) (h1 : Em.one x s = some s') (hWX : Lo.Wd X) (hWM : Lo.Wd s.M) :
    Calls Tryd.prog 43 #[.pointer (some ⟨gb, 0, none⟩), .agg #[.int .i64 x.op, .int .i64 x.k, .int .i64 x.r, .int .i64 x.a, .int .i64 x.b, .int .i64 x.n], .slice (some ⟨rb, 0, none⟩) nr cr] w (fun e w' => ∃ X', Em.RX s' X' ∧ X'.length = X.length ∧ s'.M.length = s.M.length ∧ Lo.Wd X' ∧ Lo.Wd s'.M ∧ OneP w gb rb cb nc cc v0 v1 v2 v3 v4 v5 v6 st X' s'.M e w') := by
  obtain ⟨op, kk, r, a, b, n⟩ := x
  obtain ⟨f, M⟩ := s
  have hb := hR.ok
  unfold Cd.bars at hb
  unfold Em.one at h1
  dsimp only at hb h1 h10 h11 hn hm hnc hM hWM ⊢
  have hget : ∀ (i : Nat) (hi : i < X.length), f (i : Int) = X[i] := hs
  have I0 : I64 0 := by unfold I64; omega
  by_cases o1 : op = 1
  · subst o1
    rw [if_pos rfl] at hb h1
    obtain ⟨rn, rfl, hr⟩ := Em.nat_of (Em.lacks_ok hb r (by simp))
    injection h1 with h1
    subst h1
    exact (one1_any hg hx hm hnr hnc hX hM n1 n2 n3 kk rn (by omega) a b n).mono fun e w' h => ⟨_, hs.upd rn n, by simp, rfl, hWX.set hn _, hWM, h⟩
  by_cases o2 : op = 2
  · subst o2
    rw [if_neg (by decide), if_pos (by decide)] at hb
    rw [if_neg (by decide), if_pos rfl] at h1
    rw [Bool.or_eq_false_iff] at hb
    obtain ⟨rn, rfl, hr⟩ := Em.nat_of (Em.lacks_ok hb.1 r (by simp))
    have h2 : Cd.has nc n 1 = true := by simpa using hb.2
    unfold Cd.has at h2
    rw [Bool.and_eq_true, decide_eq_true_iff, decide_eq_true_iff] at h2
    obtain ⟨nn, rfl⟩ : ∃ q : Nat, n = (q : Int) := ⟨n.toNat, by omega⟩
    have hnm : nn < M.length := by omega
    injection h1 with h1
    subst h1
    have e : Lo.rd M (nn : Int) = M[nn] := by unfold Lo.rd; rw [Int.toNat_natCast, List.getD_eq_getElem?_getD, List.getElem?_eq_getElem hnm, Option.getD_some]
    rw [e]
    exact (one2_any hg hx hm hnr hnc hX hM n1 n2 n3 kk rn (by omega) a b nn hnm (by omega)).mono fun e w' h => ⟨_, hs.upd rn _, by simp, rfl, hWX.set (Em.wd_get hWM hnm) _, hWM, h⟩
  by_cases o4 : op = 4
  · subst o4
    rw [if_neg (by decide), if_pos (by decide)] at hb
    rw [if_neg (by decide), if_neg (by decide), if_pos rfl] at h1
    rw [Bool.or_eq_false_iff] at hb
    obtain ⟨rn, rfl, hr⟩ := Em.nat_of (Em.lacks_ok hb.1 r (by simp))
    have h2 : Cd.has nc n 1 = true := by simpa using hb.2
    unfold Cd.has at h2
    rw [Bool.and_eq_true, decide_eq_true_iff, decide_eq_true_iff] at h2
    obtain ⟨nn, rfl⟩ : ∃ q : Nat, n = (q : Int) := ⟨n.toNat, by omega⟩
    have hnm : nn < M.length := by omega
    injection h1 with h1
    subst h1
    rw [Int.toNat_natCast, hget rn (by omega)]
    exact (one4_any hg hx hm hnr hnc hX hM n1 n2 n3 kk rn (by omega) a b nn hnm (by omega)).mono fun e w' h => ⟨_, hs.same, rfl, by simp, hWX, hWM.set (Em.wd_get hWX (by omega)) _, h⟩
  by_cases o3 : op = 3
  · subst o3
    rw [if_neg (by decide), if_neg (by decide), if_pos (by decide)] at hb
    rw [if_neg (by decide), if_neg (by decide), if_neg (by decide), if_pos rfl] at h1
    rw [Bool.or_eq_false_iff, Bool.or_eq_false_iff] at hb
    obtain ⟨⟨hb1, hb2⟩, hb3⟩ := hb
    obtain ⟨rn, rfl, hr⟩ := Em.nat_of (Em.lacks_ok hb1 r (by simp))
    obtain ⟨an, rfl, ha⟩ := Em.nat_of (Em.lacks_ok hb1 a (by simp))
    have h2 : Cd.has nc n b = true := by simpa using hb3
    unfold Cd.has at h2
    rw [Bool.and_eq_true, decide_eq_true_iff, decide_eq_true_iff] at h2
    rw [decide_eq_false_iff_not] at hb2
    have han : an < X.length := by omega
    split at h1
    · cases h1
    rename_i hc
    rw [hget an han] at hc
    obtain ⟨nn, rfl⟩ : ∃ q : Nat, n = (q : Int) := ⟨n.toNat, by omega⟩
    obtain ⟨p, hp⟩ : ∃ q : Nat, X[an] = (q : Int) := ⟨X[an].toNat, by omega⟩
    have hpm : nn + p < M.length := by omega
    injection h1 with h1
    subst h1
    have e : Lo.rd M ((nn : Int) + f (an : Int)) = M[nn + p] := by
      unfold Lo.rd
      rw [hget an han, hp, show ((nn : Int) + (p : Int)).toNat = nn + p by omega, List.getD_eq_getElem?_getD, List.getElem?_eq_getElem hpm, Option.getD_some]
    rw [e]
    exact (one3_any hg hx hm hnr hnc hX hM n1 n2 n3 kk rn (by omega) b nn p an han hp (by omega) hpm (by omega)).mono fun e w' h => ⟨_, hs.upd rn _, by simp, rfl, hWX.set (Em.wd_get hWM hpm) _, hWM, h⟩
  by_cases o5 : op = 5
  · subst o5
    rw [if_neg (by decide), if_neg (by decide), if_pos (by decide)] at hb
    rw [if_neg (by decide), if_neg (by decide), if_neg (by decide), if_neg (by decide), if_pos rfl] at h1
    rw [Bool.or_eq_false_iff, Bool.or_eq_false_iff] at hb
    obtain ⟨⟨hb1, hb2⟩, hb3⟩ := hb
    obtain ⟨rn, rfl, hr⟩ := Em.nat_of (Em.lacks_ok hb1 r (by simp))
    obtain ⟨an, rfl, ha⟩ := Em.nat_of (Em.lacks_ok hb1 a (by simp))
    have h2 : Cd.has nc n b = true := by simpa using hb3
    unfold Cd.has at h2
    rw [Bool.and_eq_true, decide_eq_true_iff, decide_eq_true_iff] at h2
    rw [decide_eq_false_iff_not] at hb2
    have han : an < X.length := by omega
    split at h1
    · cases h1
    rename_i hc
    rw [hget an han] at hc
    obtain ⟨nn, rfl⟩ : ∃ q : Nat, n = (q : Int) := ⟨n.toNat, by omega⟩
    obtain ⟨p, hp⟩ : ∃ q : Nat, X[an] = (q : Int) := ⟨X[an].toNat, by omega⟩
    have hpm : nn + p < M.length := by omega
    injection h1 with h1
    subst h1
    rw [hget rn (by omega), hget an han, hp, show ((nn : Int) + (p : Int)).toNat = nn + p by omega]
    exact (one5_any hg hx hm hnr hnc hX hM n1 n2 n3 kk rn (by omega) b nn p an han hp (by omega) hpm (by omega)).mono fun e w' h => ⟨_, hs.same, rfl, by simp, hWX, hWM.set (Em.wd_get hWX (by omega)) _, h⟩
  by_cases o6 : op = 6
  · subst o6
    rw [if_neg (by decide), if_neg (by decide), if_neg (by decide), if_pos rfl] at hb
    rw [if_neg (by decide), if_neg (by decide), if_neg (by decide), if_neg (by decide), if_neg (by decide), if_pos rfl] at h1
    rw [Bool.or_eq_false_iff] at hb
    obtain ⟨rn, rfl, hr⟩ := Em.nat_of (Em.lacks_ok hb.1 r (by simp))
    obtain ⟨an, rfl, ha⟩ := Em.nat_of (Em.lacks_ok hb.1 a (by simp))
    injection h1 with h1
    subst h1
    rw [hget an (by omega)]
    exact (one6_any hg hx hm hnr hnc hX hM n1 n2 n3 kk rn (by omega) b n an (by omega) hWX).mono fun e w' h => ⟨_, hs.upd rn _, by simp, rfl, hWX.set (apT_I64 (Em.wd_get hWX (by omega)) I0) _, hWM, h⟩
  by_cases o7 : op = 7
  · subst o7
    rw [if_neg (by decide), if_neg (by decide), if_neg (by decide), if_neg (by decide), if_pos rfl] at hb
    rw [if_neg (by decide), if_neg (by decide), if_neg (by decide), if_neg (by decide), if_neg (by decide), if_neg (by decide), if_pos rfl] at h1
    rw [Bool.or_eq_false_iff] at hb
    obtain ⟨rn, rfl, hr⟩ := Em.nat_of (Em.lacks_ok hb.1 r (by simp))
    obtain ⟨an, rfl, ha⟩ := Em.nat_of (Em.lacks_ok hb.1 a (by simp))
    obtain ⟨bn, rfl, hbn⟩ := Em.nat_of (Em.lacks_ok hb.1 b (by simp))
    injection h1 with h1
    subst h1
    rw [hget an (by omega), hget bn (by omega)]
    exact (one7_any hg hx hm hnr hnc hX hM n1 n2 n3 kk rn (by omega) n an (by omega) bn (by omega) hWX).mono fun e w' h => ⟨_, hs.upd rn _, by simp, rfl, hWX.set (apT_I64 (Em.wd_get hWX (by omega)) (Em.wd_get hWX (by omega))) _, hWM, h⟩
  by_cases o8 : op = 8
  · subst o8
    rw [if_neg (by decide), if_neg (by decide), if_neg (by decide), if_neg (by decide), if_neg (by decide), if_pos rfl] at hb
    rw [if_neg (by decide), if_neg (by decide), if_neg (by decide), if_neg (by decide), if_neg (by decide), if_neg (by decide), if_neg (by decide), if_pos rfl] at h1
    obtain ⟨rn, rfl, hr⟩ := Em.nat_of (Em.lacks_ok hb r (by simp))
    obtain ⟨an, rfl, ha⟩ := Em.nat_of (Em.lacks_ok hb a (by simp))
    obtain ⟨bn, rfl, hbn⟩ := Em.nat_of (Em.lacks_ok hb b (by simp))
    injection h1 with h1
    subst h1
    by_cases hz : X[rn] = 0
    · rw [if_pos ((hget rn (by omega)).trans hz), hget bn (by omega)]
      exact (one8a_any hg hx hm hnr hnc hX hM n1 n2 n3 kk rn (by omega) n an (by omega) bn (by omega) hz).mono fun e w' h => ⟨_, hs.upd rn _, by simp, rfl, hWX.set (Em.wd_get hWX (by omega)) _, hWM, h⟩
    · rw [if_neg (fun hh => hz ((hget rn (by omega)).symm.trans hh)), hget an (by omega)]
      exact (one8b_any hg hx hm hnr hnc hX hM n1 n2 n3 kk rn (by omega) n an (by omega) bn (by omega) hz).mono fun e w' h => ⟨_, hs.upd rn _, by simp, rfl, hWX.set (Em.wd_get hWX (by omega)) _, hWM, h⟩
  by_cases o9 : op = 9
  · subst o9
    rw [if_neg (by decide), if_neg (by decide), if_neg (by decide), if_neg (by decide), if_neg (by decide), if_neg (by decide), if_pos rfl] at hb
    rw [if_neg (by decide), if_neg (by decide), if_neg (by decide), if_neg (by decide), if_neg (by decide), if_neg (by decide), if_neg (by decide), if_neg (by decide), if_pos rfl] at h1
    obtain ⟨rn, rfl, hr⟩ := Em.nat_of (Em.lacks_ok hb r (by simp))
    obtain ⟨an, rfl, ha⟩ := Em.nat_of (Em.lacks_ok hb a (by simp))
    injection h1 with h1
    subst h1
    rw [hget an (by omega)]
    exact (one9_any hg hx hm hnr hnc hX hM n1 n2 n3 kk rn (by omega) b n an (by omega)).mono fun e w' h => ⟨_, hs.upd rn _, by simp, rfl, hWX.set (Em.wd_get hWX (by omega)) _, hWM, h⟩
  · exfalso
    rw [if_neg o1, if_neg (by omega), if_neg (by omega), if_neg o6, if_neg o7, if_neg o8, if_neg o9, if_neg h10, if_neg h11] at hb
    cases hb
end Go.Proofs.YtkgbmgpdehmiiaaDoor
