import Derived.Test.YtbiomnnlpafciaaDoorT42
import Derived.Test.YtbiomnnlpafciaaDoorT40
import Derived.WalkKit
import Derived.WalkSpells
import Derived.IntWalk
import Derived.Deep.Cut
import Derived.Deep.LoopGhost
import Derived.Laws.Cover1
import Derived.Lib.Hide
set_option linter.unusedVariables false
set_option linter.unusedSimpArgs false
set_option maxHeartbeats 64000000
set_option maxRecDepth 100000
namespace Go.Proofs.YtbiomnnlpafciaaDoor
open Go.RowKit Go.IntWalk
set_option linter.unusedVariables false
set_option linter.unusedSimpArgs false
namespace Em
open Lo Cd
/-- registers in a list -/
def RX (s : St) (X : List Int) : Prop := ∀ (j : Nat) (h : j < X.length), s.R (j : Int) = X[j]
theorem RX.upd {f : Int → Int} {M M' : List Int} {X : List Int} (h : RX ⟨f, M⟩ X) (r : Nat) (v : Int) : RX ⟨Em.upd f (r : Int) v, M'⟩ (X.set r v) := by
  intro j hj
  have hj2 : j < X.length := by simpa using hj
  show Em.upd f (r : Int) v (j : Int) = _
  by_cases e : j = r
  · subst e
    rw [upd_at]
    simp
  · rw [upd_ne _ _ (by omega)]
    rw [List.getElem_set_ne (by omega)]
    exact h j hj2
theorem RX.same {f : Int → Int} {M M' : List Int} {X : List Int} (h : RX ⟨f, M⟩ X) : RX ⟨f, M'⟩ X := h
theorem lk_ok {R x : Int} (h : Cd.lk R x = false) : 0 ≤ x ∧ x < R := by
  unfold Cd.lk at h
  rw [Bool.or_eq_false_iff, decide_eq_false_iff_not, decide_eq_false_iff_not] at h
  omega
theorem lacks_ok {R : Int} {l : List Int} (h : Cd.lacks R l = false) : ∀ x ∈ l, 0 ≤ x ∧ x < R := fun x hx => by
  unfold Cd.lacks at h
  rw [List.any_eq_false] at h
  exact lk_ok (by simpa using h x hx)
theorem nat_of {x R : Int} (h : 0 ≤ x ∧ x < R) : ∃ n : Nat, x = (n : Int) ∧ (n : Int) < R := ⟨x.toNat, by omega, by omega⟩
theorem wd_get {X : List Int} (h : Wd X) {i : Nat} (hi : i < X.length) : I64 X[i] := h _ (List.getElem_mem hi)
/-- a loop's body ends: up to the first IEnd -/
theorem cut_of {m : Int} : ∀ (L : List In), Cd.go 10 11 (some m) L ≠ none → ∃ b e l, L = b ++ e :: l ∧ plain b ∧ e.op = 11 ∧ Cd.go 10 11 none l ≠ none
  | [], h => by simp [Cd.go] at h
  | x :: L, h => by
    by_cases h11 : x.op = 11
    · refine ⟨[], x, L, rfl, (fun y hy => by cases hy), h11, fun hh => h ?_⟩
      rw [Cd.go_cons, Cd.step]
      try dsimp only
      rw [if_pos h11]
      simp [hh]
    · by_cases h10 : x.op = 10
      · exact absurd (by rw [Cd.go_cons, Cd.step]; (try dsimp only); rw [if_neg h11, if_pos h10]; rfl) h
      · have h2 : Cd.go 10 11 (some m) L ≠ none := fun hh => h (by
          rw [Cd.go_cons, Cd.step]
          try dsimp only
          rw [if_neg h11, if_neg h10]
          simp [hh])
        obtain ⟨b, e, l, e1, e2, e3, e4⟩ := cut_of L h2
        refine ⟨x :: b, e, l, by rw [e1]; rfl, fun y hy => ?_, e3, e4⟩
        rcases List.mem_cons.1 hy with rfl | hy
        · exact ⟨h10, h11⟩
        · exact e2 y hy
theorem go_head {x : In} {l : List In} (h : Cd.go 10 11 none (x :: l) ≠ none) : x.op ≠ 11 ∧ (x.op ≠ 10 → Cd.go 10 11 none l ≠ none) ∧ (x.op = 10 → 1 ≤ x.n ∧ x.n ≤ 300 ∧ Cd.go 10 11 (some x.n) l ≠ none) := by
  rw [Cd.go_cons, Cd.step] at h
  try dsimp only at h
  by_cases h11 : x.op = 11
  · rw [if_pos h11] at h
    exact absurd rfl h
  rw [if_neg h11] at h
  refine ⟨h11, fun h10 hh => ?_, fun h10 => ?_⟩
  · rw [if_neg h10] at h
    simp [hh] at h
  · rw [if_pos h10] at h
    by_cases hn : 1 ≤ x.n ∧ x.n ≤ 300
    · rw [if_pos hn] at h
      refine ⟨hn.1, hn.2, fun hh => ?_⟩
      simp [hh] at h
    · rw [if_neg hn] at h
      exact absurd rfl h
end Em
/-- an instruction, no loop's -/
theorem one62_any {w : World} {gb rb cb nc cc nr cr : Nat} {v0 v1 v2 v3 v4 v5 v6 : Value} {X : List Int} {st : Int} {s s' : Em.St} (hg : GAt w gb cb nc cc v0 v1 v2 v3 v4 v5 v6 st) (hx : LB w rb X) (hm : LB w cb s.M) (hnr : nr = X.length) (hnc : nc = s.M.length) (hX : X.length ≤ 40) (hM : s.M.length ≤ 6000) (n1 : gb ≠ rb) (n2 : gb ≠ cb) (n3 : rb ≠ cb) {x : Cd.In} (hR : Em.Rs (s.M.length : Int) (X.length : Int) x) (h10 : x.op ≠ 10) (h11 : x.op ≠ 11) (hn : I64 x.n) (hs : Em.RX s X) (h1 : Em.one x s = some s') (hWX : Lo.Wd X) (hWM : Lo.Wd s.M) :
    Calls Tryd.prog 62 #[.pointer (some ⟨gb, 0, none⟩), .agg #[.int .i64 x.op, .int .i64 x.k, .int .i64 x.r, .int .i64 x.a, .int .i64 x.b, .int .i64 x.n], .slice (some ⟨rb, 0, none⟩) nr cr] w (fun e w' => ∃ X', Em.RX s' X' ∧ X'.length = X.length ∧ s'.M.length = s.M.length ∧ Lo.Wd X' ∧ Lo.Wd s'.M ∧ OneP w gb rb cb nc cc v0 v1 v2 v3 v4 v5 v6 X' s'.M e w') := by
  obtain ⟨op, kk, r, a, b, n⟩ := x
  obtain ⟨f, M⟩ := s
  have hb := hR.ok
  unfold Cd.bars at hb
  unfold Em.one at h1
  dsimp only at hb h1 h10 h11 hn hm hnc hM hWM ⊢
  have hget : ∀ (i : Nat) (hi : i < X.length), f (i : Int) = X[i] := hs
  have I0 : I64 0 := by unfold I64; omega
  by_cases o1 : op = 1
  · subst o1
    rw [if_pos rfl] at hb h1
    obtain ⟨rn, rfl, hr⟩ := Em.nat_of (Em.lacks_ok hb r (by simp))
    injection h1 with h1
    subst h1
    exact (one1_any hg hx hm hnr hnc hX hM n1 n2 n3 kk rn (by omega) a b n).mono fun e w' h => ⟨_, hs.upd rn n, by simp, rfl, hWX.set hn _, hWM, h⟩
  by_cases o2 : op = 2
  · subst o2
    rw [if_neg (by decide), if_pos (by decide)] at hb
    rw [if_neg (by decide), if_pos rfl] at h1
    rw [Bool.or_eq_false_iff] at hb
    obtain ⟨rn, rfl, hr⟩ := Em.nat_of (Em.lacks_ok hb.1 r (by simp))
    have h2 : Cd.has M.length n 1 = true := by simpa using hb.2
    unfold Cd.has at h2
    rw [Bool.and_eq_true, decide_eq_true_iff, decide_eq_true_iff] at h2
    obtain ⟨nn, rfl⟩ : ∃ q : Nat, n = (q : Int) := ⟨n.toNat, by omega⟩
    have hnm : nn < M.length := by omega
    injection h1 with h1
    subst h1
    have e : Lo.rd M (nn : Int) = M[nn] := by unfold Lo.rd; rw [Int.toNat_natCast, List.getD_eq_getElem?_getD, List.getElem?_eq_getElem hnm, Option.getD_some]
    rw [e]
    exact (one2_any hg hx hm hnr hnc hX hM n1 n2 n3 kk rn (by omega) a b nn hnm).mono fun e w' h => ⟨_, hs.upd rn _, by simp, rfl, hWX.set (Em.wd_get hWM hnm) _, hWM, h⟩
  by_cases o4 : op = 4
  · subst o4
    rw [if_neg (by decide), if_pos (by decide)] at hb
    rw [if_neg (by decide), if_neg (by decide), if_pos rfl] at h1
    rw [Bool.or_eq_false_iff] at hb
    obtain ⟨rn, rfl, hr⟩ := Em.nat_of (Em.lacks_ok hb.1 r (by simp))
    have h2 : Cd.has M.length n 1 = true := by simpa using hb.2
    unfold Cd.has at h2
    rw [Bool.and_eq_true, decide_eq_true_iff, decide_eq_true_iff] at h2
    obtain ⟨nn, rfl⟩ : ∃ q : Nat, n = (q : Int) := ⟨n.toNat, by omega⟩
    have hnm : nn < M.length := by omega
    injection h1 with h1
    subst h1
    rw [Int.toNat_natCast, hget rn (by omega)]
    exact (one4_any hg hx hm hnr hnc hX hM n1 n2 n3 kk rn (by omega) a b nn hnm).mono fun e w' h => ⟨_, hs.same, rfl, by simp, hWX, hWM.set (Em.wd_get hWX (by omega)) _, h⟩
  by_cases o3 : op = 3
  · subst o3
    rw [if_neg (by decide), if_neg (by decide), if_pos (by decide)] at hb
    rw [if_neg (by decide), if_neg (by decide), if_neg (by decide), if_pos rfl] at h1
    rw [Bool.or_eq_false_iff, Bool.or_eq_false_iff] at hb
    obtain ⟨⟨hb1, hb2⟩, hb3⟩ := hb
    obtain ⟨rn, rfl, hr⟩ := Em.nat_of (Em.lacks_ok hb1 r (by simp))
    obtain ⟨an, rfl, ha⟩ := Em.nat_of (Em.lacks_ok hb1 a (by simp))
    have h2 : Cd.has M.length n b = true := by simpa using hb3
    unfold Cd.has at h2
    rw [Bool.and_eq_true, decide_eq_true_iff, decide_eq_true_iff] at h2
    rw [decide_eq_false_iff_not] at hb2
    have han : an < X.length := by omega
    split at h1
    · cases h1
    rename_i hc
    rw [hget an han] at hc
    obtain ⟨nn, rfl⟩ : ∃ q : Nat, n = (q : Int) := ⟨n.toNat, by omega⟩
    obtain ⟨p, hp⟩ : ∃ q : Nat, X[an] = (q : Int) := ⟨X[an].toNat, by omega⟩
    have hpm : nn + p < M.length := by omega
    injection h1 with h1
    subst h1
    have e : Lo.rd M ((nn : Int) + f (an : Int)) = M[nn + p] := by
      unfold Lo.rd
      rw [hget an han, hp, show ((nn : Int) + (p : Int)).toNat = nn + p by omega, List.getD_eq_getElem?_getD, List.getElem?_eq_getElem hpm, Option.getD_some]
    rw [e]
    exact (one3_any hg hx hm hnr hnc hX hM n1 n2 n3 kk rn (by omega) b nn p an han hp (by omega) hpm).mono fun e w' h => ⟨_, hs.upd rn _, by simp, rfl, hWX.set (Em.wd_get hWM hpm) _, hWM, h⟩
  by_cases o5 : op = 5
  · subst o5
    rw [if_neg (by decide), if_neg (by decide), if_pos (by decide)] at hb
    rw [if_neg (by decide), if_neg (by decide), if_neg (by decide), if_neg (by decide), if_pos rfl] at h1
    rw [Bool.or_eq_false_iff, Bool.or_eq_false_iff] at hb
    obtain ⟨⟨hb1, hb2⟩, hb3⟩ := hb
    obtain ⟨rn, rfl, hr⟩ := Em.nat_of (Em.lacks_ok hb1 r (by simp))
    obtain ⟨an, rfl, ha⟩ := Em.nat_of (Em.lacks_ok hb1 a (by simp))
    have h2 : Cd.has M.length n b = true := by simpa using hb3
    unfold Cd.has at h2
    rw [Bool.and_eq_true, decide_eq_true_iff, decide_eq_true_iff] at h2
    rw [decide_eq_false_iff_not] at hb2
    have han : an < X.length := by omega
    split at h1
    · cases h1
    rename_i hc
    rw [hget an han] at hc
    obtain ⟨nn, rfl⟩ : ∃ q : Nat, n = (q : Int) := ⟨n.toNat, by omega⟩
    obtain ⟨p, hp⟩ : ∃ q : Nat, X[an] = (q : Int) := ⟨X[an].toNat, by omega⟩
    have hpm : nn + p < M.length := by omega
    injection h1 with h1
    subst h1
    rw [hget rn (by omega), hget an han, hp, show ((nn : Int) + (p : Int)).toNat = nn + p by omega]
    exact (one5_any hg hx hm hnr hnc hX hM n1 n2 n3 kk rn (by omega) b nn p an han hp (by omega) hpm).mono fun e w' h => ⟨_, hs.same, rfl, by simp, hWX, hWM.set (Em.wd_get hWX (by omega)) _, h⟩
  by_cases o6 : op = 6
  · subst o6
    rw [if_neg (by decide), if_neg (by decide), if_neg (by decide), if_pos rfl] at hb
    rw [if_neg (by decide), if_neg (by decide), if_neg (by decide), if_neg (by decide), if_neg (by decide), if_pos rfl] at h1
    rw [Bool.or_eq_false_iff] at hb
    obtain ⟨rn, rfl, hr⟩ := Em.nat_of (Em.lacks_ok hb.1 r (by simp))
    obtain ⟨an, rfl, ha⟩ := Em.nat_of (Em.lacks_ok hb.1 a (by simp))
    injection h1 with h1
    subst h1
    rw [hget an (by omega)]
    exact (one6_any hg hx hm hnr hnc hX hM n1 n2 n3 kk rn (by omega) b n an (by omega) hWX).mono fun e w' h => ⟨_, hs.upd rn _, by simp, rfl, hWX.set (apT_I64 (Em.wd_get hWX (by omega)) I0) _, hWM, h⟩
  by_cases o7 : op = 7
  · subst o7
    rw [if_neg (by decide), if_neg (by decide), if_neg (by decide), if_neg (by decide), if_pos rfl] at hb
    rw [if_neg (by decide), if_neg (by decide), if_neg (by decide), if_neg (by decide), if_neg (by decide), if_neg (by decide), if_pos rfl] at h1
    rw [Bool.or_eq_false_iff] at hb
    obtain ⟨rn, rfl, hr⟩ := Em.nat_of (Em.lacks_ok hb.1 r (by simp))
    obtain ⟨an, rfl, ha⟩ := Em.nat_of (Em.lacks_ok hb.1 a (by simp))
    obtain ⟨bn, rfl, hbn⟩ := Em.nat_of (Em.lacks_ok hb.1 b (by simp))
    injection h1 with h1
    subst h1
    rw [hget an (by omega), hget bn (by omega)]
    exact (one7_any hg hx hm hnr hnc hX hM n1 n2 n3 kk rn (by omega) n an (by omega) bn (by omega) hWX).mono fun e w' h => ⟨_, hs.upd rn _, by simp, rfl, hWX.set (apT_I64 (Em.wd_get hWX (by omega)) (Em.wd_get hWX (by omega))) _, hWM, h⟩
  by_cases o8 : op = 8
  · subst o8
    rw [if_neg (by decide), if_neg (by decide), if_neg (by decide), if_neg (by decide), if_neg (by decide), if_pos rfl] at hb
    rw [if_neg (by decide), if_neg (by decide), if_neg (by decide), if_neg (by decide), if_neg (by decide), if_neg (by decide), if_neg (by decide), if_pos rfl] at h1
    obtain ⟨rn, rfl, hr⟩ := Em.nat_of (Em.lacks_ok hb r (by simp))
    obtain ⟨an, rfl, ha⟩ := Em.nat_of (Em.lacks_ok hb a (by simp))
    obtain ⟨bn, rfl, hbn⟩ := Em.nat_of (Em.lacks_ok hb b (by simp))
    injection h1 with h1
    subst h1
    by_cases hz : X[rn] = 0
    · rw [if_pos ((hget rn (by omega)).trans hz), hget bn (by omega)]
      exact (one8a_any hg hx hm hnr hnc hX hM n1 n2 n3 kk rn (by omega) n an (by omega) bn (by omega) hz).mono fun e w' h => ⟨_, hs.upd rn _, by simp, rfl, hWX.set (Em.wd_get hWX (by omega)) _, hWM, h⟩
    · rw [if_neg (fun hh => hz ((hget rn (by omega)).symm.trans hh)), hget an (by omega)]
      exact (one8b_any hg hx hm hnr hnc hX hM n1 n2 n3 kk rn (by omega) n an (by omega) bn (by omega) hz).mono fun e w' h => ⟨_, hs.upd rn _, by simp, rfl, hWX.set (Em.wd_get hWX (by omega)) _, hWM, h⟩
  by_cases o9 : op = 9
  · subst o9
    rw [if_neg (by decide), if_neg (by decide), if_neg (by decide), if_neg (by decide), if_neg (by decide), if_neg (by decide), if_pos rfl] at hb
    rw [if_neg (by decide), if_neg (by decide), if_neg (by decide), if_neg (by decide), if_neg (by decide), if_neg (by decide), if_neg (by decide), if_neg (by decide), if_pos rfl] at h1
    obtain ⟨rn, rfl, hr⟩ := Em.nat_of (Em.lacks_ok hb r (by simp))
    obtain ⟨an, rfl, ha⟩ := Em.nat_of (Em.lacks_ok hb a (by simp))
    injection h1 with h1
    subst h1
    rw [hget an (by omega)]
    exact (one9_any hg hx hm hnr hnc hX hM n1 n2 n3 kk rn (by omega) b n an (by omega)).mono fun e w' h => ⟨_, hs.upd rn _, by simp, rfl, hWX.set (Em.wd_get hWX (by omega)) _, hWM, h⟩
  · exfalso
    rw [if_neg o1, if_neg (by omega), if_neg (by omega), if_neg o6, if_neg o7, if_neg o8, if_neg o9, if_neg h10, if_neg h11] at hb
    cases hb
end Go.Proofs.YtbiomnnlpafciaaDoor
namespace Go.Proofs.YtbiomnnlpafciaaDoor
open Go.RowKit Go.IntWalk
set_option linter.unusedVariables false
set_option linter.unusedSimpArgs false
/-- between two instructions: registers in block rb, cells in block cb -/
structure AllS (w1 : World) (gb rb cb nc cc nr : Nat) (v0 v1 v2 v3 v4 v5 v6 : Value) (X : List Int) (s : Em.St) (wr : World) : Prop where
  g : ∃ st, GAt wr gb cb nc cc v0 v1 v2 v3 v4 v5 v6 st
  x : LB wr rb X
  m : LB wr cb s.M
  rx : Em.RX s X
  lx : X.length = nr
  lm : s.M.length = nc
  wx : Lo.Wd X
  wm : Lo.Wd s.M
  a : Aside [gb, rb, cb] w1.heap.size w1 wr
/-- which blocks these are -/
structure Bls (gb rb cb nc nr : Nat) (w1 : World) : Prop where
  n1 : gb ≠ rb
  n2 : gb ≠ cb
  n3 : rb ≠ cb
  nc : nc ≤ 6000
  nr : 1 ≤ nr ∧ nr ≤ 40
  hg : gb < w1.heap.size
  hr : rb < w1.heap.size
  hc : cb < w1.heap.size
theorem AllS.one {w1 : World} {gb rb cb nc cc nr : Nat} {v0 v1 v2 v3 v4 v5 v6 : Value} {X : List Int} {s s' : Em.St} {wr : World} (h : AllS w1 gb rb cb nc cc nr v0 v1 v2 v3 v4 v5 v6 X s wr) (hb : Bls gb rb cb nc nr w1) {x : Cd.In} (hR : Em.Rs (nc : Int) (nr : Int) x) (h10 : x.op ≠ 10) (h11 : x.op ≠ 11) (hn : I64 x.n) (h1 : Em.one x s = some s') :
    Calls Tryd.prog 62 #[.pointer (some ⟨gb, 0, none⟩), .agg #[.int .i64 x.op, .int .i64 x.k, .int .i64 x.r, .int .i64 x.a, .int .i64 x.b, .int .i64 x.n], .slice (some ⟨rb, 0, none⟩) nr nr] wr (fun e w' => e = .returned (.bool true) ∧ ∃ X', AllS w1 gb rb cb nc cc nr v0 v1 v2 v3 v4 v5 v6 X' s' w') := by
  obtain ⟨st, hg⟩ := h.g
  have hR2 : Em.Rs (s.M.length : Int) (X.length : Int) x := by rw [h.lm, h.lx]; exact hR
  refine (one62_any hg h.x h.m h.lx.symm h.lm.symm (by rw [h.lx]; exact hb.nr.2) (by rw [h.lm]; exact hb.nc) hb.n1 hb.n2 hb.n3 hR2 h10 h11 hn h.rx h1 h.wx h.wm).mono ?_
  rintro e w' ⟨X', q1, q2, q3, q4, q5, q6⟩
  exact ⟨q6.e, X', q6.g, q6.x, q6.m, q1, q2.trans h.lx, q3.trans h.lm, q4, q5, h.a.trans q6.a h.a.size⟩
/-- one more instruction is counted -/
theorem AllS.count {w1 : World} {gb rb cb nc cc nr : Nat} {v0 v1 v2 v3 v4 v5 v6 : Value} {X : List Int} {s : Em.St} {wr : World} (h : AllS w1 gb rb cb nc cc nr v0 v1 v2 v3 v4 v5 v6 X s wr) (hb : Bls gb rb cb nc nr w1) (u : Int) : AllS w1 gb rb cb nc cc nr v0 v1 v2 v3 v4 v5 v6 X s (wr.setCell ⟨gb, 8, none⟩ (.int .i64 u)) := by
  obtain ⟨st, hg⟩ := h.g
  have hq : Aside [gb, rb, cb] w1.heap.size wr (wr.setCell ⟨gb, 8, none⟩ (.int .i64 u)) := Aside.setCell (by simp) _
  refine ⟨⟨u, ?_⟩, h.x.keep (heap_set_other wr ⟨gb, 8, none⟩ _ (by show gb ≠ rb; exact hb.n1)), h.m.keep (heap_set_other wr ⟨gb, 8, none⟩ _ (by show gb ≠ cb; exact hb.n2)), h.rx, h.lx, h.lm, h.wx, h.wm, h.a.trans hq (Nat.le_refl _)⟩
  have := set_in (show wr.heap[gb]? = some (.cells #[v0, v1, v2, v3, v4, v5, v6, .slice (some ⟨cb, 0, none⟩) nc cc, .int .i64 st] 56 (0, 0)) from hg) 8 (.int .i64 u)
  simpa [GAt] using this
/-- a register is another number -/
theorem AllS.turn {w1 : World} {gb rb cb nc cc nr : Nat} {v0 v1 v2 v3 v4 v5 v6 : Value} {X : List Int} {s : Em.St} {wr : World} (h : AllS w1 gb rb cb nc cc nr v0 v1 v2 v3 v4 v5 v6 X s wr) (hb : Bls gb rb cb nc nr w1) {r : Nat} {v : Int} (hv : I64 v) : AllS w1 gb rb cb nc cc nr v0 v1 v2 v3 v4 v5 v6 (X.set r v) ⟨Em.upd s.R (r : Int) v, s.M⟩ (wr.setCell ⟨rb, r, none⟩ (.int .i64 v)) := by
  obtain ⟨st, hg⟩ := h.g
  have hq : Aside [gb, rb, cb] w1.heap.size wr (wr.setCell ⟨rb, r, none⟩ (.int .i64 v)) := Aside.setCell (by simp) _
  exact ⟨⟨st, hg.keep (heap_set_other wr ⟨rb, r, none⟩ _ (by show rb ≠ gb; exact hb.n1.symm))⟩, h.x.set r v, h.m.keep (heap_set_other wr ⟨rb, r, none⟩ _ (by show rb ≠ cb; exact hb.n3)), Em.RX.upd (f := s.R) (M := s.M) h.rx r v, by rw [List.length_set]; exact h.lx, h.lm, h.wx.set hv _, h.wm, h.a.trans hq (Nat.le_refl _)⟩
/-- what an instruction may be -/
structure InOk (nc nr : Nat) (x : Cd.In) : Prop where
  rs : Em.Rs (nc : Int) (nr : Int) x
  n : I64 x.n
end Go.Proofs.YtbiomnnlpafciaaDoor
namespace Go.Proofs.YtbiomnnlpafciaaDoor
open Go.RowKit Go.IntWalk
set_option linter.unusedVariables false
set_option linter.unusedSimpArgs false
namespace Em
open Lo Cd
theorem nz : I64 0 := by unfold I64; omega
theorem ep_n {c n : Int} {p : Pu} (hc : 1 ≤ c ∧ c ≤ 6000) (hp : pushOK c n p = true) (hn : 1 ≤ n ∧ n ≤ 300) (hi : I64 p.n) (r t : Int) : ∀ x ∈ ep p r t, I64 x.n := by
  intro x hx
  obtain ⟨op, kk, vv, nn⟩ := p
  have one : ∀ (y : In), x ∈ [y] → I64 y.n → I64 x.n := fun y hy h => by
    rw [List.mem_singleton] at hy
    subst hy
    exact h
  unfold pushOK at hp
  unfold ep at hx
  dsimp only at hp hi hx
  by_cases o1 : op = 1
  · subst o1
    rw [if_pos rfl] at hx
    exact one _ hx hi
  rw [if_neg o1] at hx
  by_cases o7 : op = 7
  · subst o7
    simp only [show ((7 : Int) = 2) = False by simp, show ((7 : Int) = 3) = False by simp, show ((7 : Int) = 4) = False by simp, show ((7 : Int) = 5) = False by simp, show ((7 : Int) = 6) = False by simp, if_false, if_true] at hx
    exact one _ hx nz
  rw [if_neg (by omega)] at hp
  by_cases o2 : op = 2
  · subst o2
    rw [if_pos rfl] at hx hp
    exact one _ hx (hasN_I64 hc (Int.le_refl 1) hp).2
  rw [if_neg o2] at hx hp
  by_cases o3 : op = 3
  · subst o3
    rw [if_pos rfl] at hx hp
    split at hx
    · exact one _ hx (hasN_I64 hc hn.1 hp).2
    · exact one _ hx (hasN_I64 hc hn.1 hp).2
  rw [if_neg o3] at hx hp
  by_cases o4 : op = 4
  · subst o4
    rw [if_pos rfl] at hx
    split at hx
    · simp only [List.mem_cons, List.not_mem_nil, or_false] at hx
      rcases hx with rfl | rfl
      · exact hi
      · exact nz
    · exact one _ hx hi
  rw [if_neg o4] at hx hp
  by_cases o5 : op = 5
  · subst o5
    rw [if_pos rfl] at hx
    exact one _ hx nz
  rw [if_neg o5] at hx hp
  by_cases o6 : op = 6
  · subst o6
    rw [if_pos rfl] at hx
    exact one _ hx nz
  rw [if_neg o6] at hx hp
  rw [if_neg o7] at hx
  by_cases o8 : op = 8
  · subst o8
    rw [if_pos rfl] at hx hp
    rw [Bool.and_eq_true, decide_eq_true_iff] at hp
    have h8 := hasN_I64 hc hp.1 hp.2
    simp only [List.mem_cons, List.not_mem_nil, or_false] at hx
    rcases hx with rfl | rfl | rfl | rfl | rfl | rfl | rfl | rfl | rfl | rfl | rfl
    all_goals first | exact nz | exact hi | exact h8.2
  · rw [if_neg o8] at hp
    cases hp
theorem et_n {c n t : Int} (hc : 1 ≤ c ∧ c ≤ 6000) (hn : 1 ≤ n ∧ n ≤ 300) : ∀ (E : List Pu) (r : Int), (∀ p ∈ E, pushOK c n p = true) → PW E → ∀ x ∈ et E r t, I64 x.n
  | [], r, h1, h2, x, hx => by simp [et] at hx
  | p :: E, r, h1, h2, x, hx => by
    rw [et] at hx
    rcases List.mem_append.1 hx with hx | hx
    · exact ep_n hc (h1 p (by simp)) hn (h2 p (by simp)) r t x hx
    · exact et_n hc hn E _ (fun q hq => h1 q (by simp [hq])) (fun q hq => h2 q (by simp [hq])) x hx
theorem fit_push {c n : Int} {E : List Pu} (hf : Fit c n E) : ∀ p ∈ E, pushOK c n p = true := fun p hp => by
  obtain ⟨i, hi, rfl⟩ := List.getElem_of_mem hp
  exact (hf.at' [] 0 i hi).2.1
theorem es_n {c : Int} {s : Sp} (hc : 1 ≤ c ∧ c ≤ 6000) (h : Ok c s) (hw : SW s) : ∀ x ∈ es s, I64 x.n := by
  intro x hx
  have ht := h.tgt
  have hm0 : 0 ≤ made s := by
    unfold made turns
    by_cases o3 : s.op = 3
    · rw [if_pos o3]; decide
    · rw [if_neg o3]
      by_cases o1 : s.op = 1
      · rw [if_pos o1]; decide
      · rw [if_neg o1]; have := h.n o1; omega
  have hI : I64 s.tgt := by unfold I64; omega
  have one : ∀ (y : In), x ∈ [y] → I64 y.n → I64 x.n := fun y hy h => by
    rw [List.mem_singleton] at hy
    subst hy
    exact h
  have hE := h.E
  unfold turns at hE
  unfold es at hx
  by_cases o1 : s.op = 1
  · rw [if_pos o1] at hE
    rw [if_pos o1] at hx
    rcases List.mem_append.1 hx with hx | hx
    · exact et_n hc (by omega) _ _ (fit_push hE) hw.2 x hx
    · exact one _ hx hI
  rw [if_neg o1] at hE
  rw [if_neg o1] at hx
  have hn := h.n o1
  rcases List.mem_append.1 hx with hx | hx
  · split at hx
    · rename_i hf
      rcases List.mem_append.1 hx with hx | hx
      · exact et_n hc (by omega) _ _ (fit_push (h.F hf)) hw.1 x hx
      · exact one _ hx nz
    · cases hx
  rcases List.mem_cons.1 hx with rfl | hx
  · show I64 s.n
    unfold I64; omega
  rcases List.mem_append.1 hx with hx | hx
  · rcases List.mem_append.1 hx with hx | hx
    · exact et_n hc hn _ _ (fit_push hE) hw.2 x hx
    · unfold mid at hx
      split at hx
      · exact one _ hx hI
      split at hx
      · exact one _ hx nz
      · simp only [List.mem_cons, List.not_mem_nil, or_false] at hx
        rcases hx with rfl | rfl
        · exact nz
        · exact hI
  rcases List.mem_cons.1 hx with rfl | hx
  · exact nz
  split at hx
  · exact one _ hx hI
  · cases hx
/-- the code of loops, whole: what its run asks -/
structure Rn (L : Lp) (C : List In) (nc nr : Nat) : Prop where
  ok : ∀ x ∈ C, Rs (nc : Int) (nr : Int) x ∧ I64 x.n
  go : Cd.go 10 11 none C ≠ none
  len : C.length ≤ 200000
  nr : 1 ≤ nr ∧ nr ≤ 40
  run : ∀ M, ∃ s', all C ⟨fun _ => 0, M⟩ = some s' ∧ s'.M = L.S.foldl doS M
theorem rn_of {L : Lp} (h : (Lo.fault L).1 = 0) (hw : ∀ s ∈ L.S, SW s) {C : List In} {R : Int} (hs : mkS L.S 0 [] 3 = .inr (C, R)) : ∃ nc nr : Nat, L.c = (nc : Int) ∧ R = (nr : Int) ∧ Rn L C nc nr := by
  obtain ⟨h1, h2, h3, h4, h5⟩ := okx_all h
  obtain ⟨e1, e2, e3, e4, e5⟩ := img_ok h hs
  refine ⟨L.c.toNat, R.toNat, by omega, by omega, ⟨fun x hx => ⟨?_, ?_⟩, ?_, e2, by omega, fun M => ?_⟩⟩
  · have := e4 x hx
    rwa [show ((L.c.toNat : Nat) : Int) = L.c by omega, show ((R.toNat : Nat) : Int) = R by omega]
  · rw [e1] at hx
    obtain ⟨l, hl, hxl⟩ := List.mem_flatten.1 hx
    obtain ⟨s, hs, rfl⟩ := List.mem_map.1 hl
    exact es_n h1 (h5 s hs).toOk (hw s hs) x hxl
  · obtain ⟨y, g1, -, -⟩ := code_cost L.S (fun s hs => (h5 s hs).toOk)
    rw [e1, g1]
    exact fun h => by cases h
  · obtain ⟨s', g1, g2⟩ := code_all L.S ⟨fun _ => 0, M⟩ (fun s hs => (h5 s hs).toOk)
    exact ⟨s', by rw [e1]; exact g1, g2⟩
/-- what is made without bools: the loops' fault, too much, or code that may be run -/
theorem make_nil (L : Lp) : ((Lo.fault L).1 ≠ 0 ∧ make L [] = (((Lo.fault L).1, (Lo.fault L).2), noIm)) ∨ ((Lo.fault L).1 = 0 ∧ ∃ i, make L [] = ((7, i), noIm)) ∨ ((Lo.fault L).1 = 0 ∧ ∃ C R, mkS L.S 0 [] 3 = .inr (C, R) ∧ make L [] = ((0, 0), img L [] C R)) := by
  by_cases h : (Lo.fault L).1 = 0
  · cases hs : mkS L.S 0 [] 3 with
    | inl i => exact .inr (.inl ⟨h, i, make_many h hs⟩)
    | inr q =>
      obtain ⟨C, R⟩ := q
      obtain ⟨e1, e2, e3, e4, e5⟩ := img_ok h hs
      refine .inr (.inr ⟨h, C, R, rfl, ?_⟩)
      rw [make_code h hs, e5]
      rfl
  · exact .inl ⟨h, make_fault h⟩
end Em
end Go.Proofs.YtbiomnnlpafciaaDoor
