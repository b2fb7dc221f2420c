import Derived.Test.YtkgbmgpdehmiiaaDoorY21
import Derived.Test.YtkgbmgpdehmiiaaDoorY14
set_option linter.unusedVariables false
set_option linter.unusedSimpArgs false
set_option maxHeartbeats 64000000
set_option maxRecDepth 100000
namespace Go.Proofs.YtkgbmgpdehmiiaaDoor
open Go.RowKit Go.IntWalk
set_option linter.unusedVariables false
set_option linter.unusedSimpArgs false
namespace Dx
/-- an instruction, no loop's -/
theorem done62_any {w : World} {gb rb cb nc cc nr cr : Nat} {v0 v1 v2 v3 v4 v5 v6 : Value} {X : List Int} {st : Int} {s s' : Em.St} (hg : GAt w gb cb nc cc v0 v1 v2 v3 v4 v5 v6 st) (hx : LX w rb X) (hm : LX w cb s.M) (hnr : nr = X.length) (hnc : nc ≤ s.M.length) (hX : X.length ≤ 40) (hM : nc ≤ 6000) (n1 : gb ≠ rb) (n2 : gb ≠ cb) (n3 : rb ≠ cb) {x : Cd.In} (hR : Em.Rs (nc : Int) (X.length : Int) x) (h10 : x.op ≠ 10) (h11 : x.op ≠ 11) (hn : I64 x.n) (hs : Em.RX s X) (h1 : Em.one x s = some s') (hWX : Lo.Wd X) (hWM : Lo.Wd s.M) :
    Calls Tryd.prog 43 #[.pointer (some ⟨gb, 0, none⟩), .agg #[.int .i64 x.op, .int .i64 x.k, .int .i64 x.r, .int .i64 x.a, .int .i64 x.b, .int .i64 x.n], .slice (some ⟨rb, 0, none⟩) nr cr] w (fun e w' => ∃ X', Em.RX s' X' ∧ X'.length = X.length ∧ s'.M.length = s.M.length ∧ Lo.Wd X' ∧ Lo.Wd s'.M ∧ DOneP w gb rb cb nc cc v0 v1 v2 v3 v4 v5 v6 st X' s'.M e w') := by
  obtain ⟨op, kk, r, a, b, n⟩ := x
  obtain ⟨f, M⟩ := s
  have hb := hR.ok
  unfold Cd.bars at hb
  unfold Em.one at h1
  dsimp only at hb h1 h10 h11 hn hm hnc hM hWM ⊢
  have hget : ∀ (i : Nat) (hi : i < X.length), f (i : Int) = X[i] := hs
  have I0 : I64 0 := by unfold I64; omega
  by_cases o1 : op = 1
  · subst o1
    rw [if_pos rfl] at hb h1
    obtain ⟨rn, rfl, hr⟩ := Em.nat_of (Em.lacks_ok hb r (by simp))
    injection h1 with h1
    subst h1
    exact (done1_any hg hx hm hnr hnc hX hM n1 n2 n3 kk rn (by omega) a b n).mono fun e w' h => ⟨_, hs.upd rn n, by simp, rfl, hWX.set hn _, hWM, h⟩
  by_cases o2 : op = 2
  · subst o2
    rw [if_neg (by decide), if_pos (by decide)] at hb
    rw [if_neg (by decide), if_pos rfl] at h1
    rw [Bool.or_eq_false_iff] at hb
    obtain ⟨rn, rfl, hr⟩ := Em.nat_of (Em.lacks_ok hb.1 r (by simp))
    have h2 : Cd.has nc n 1 = true := by simpa using hb.2
    unfold Cd.has at h2
    rw [Bool.and_eq_true, decide_eq_true_iff, decide_eq_true_iff] at h2
    obtain ⟨nn, rfl⟩ : ∃ q : Nat, n = (q : Int) := ⟨n.toNat, by omega⟩
    have hnm : nn < M.length := by omega
    injection h1 with h1
    subst h1
    have e : Lo.rd M (nn : Int) = M[nn] := by unfold Lo.rd; rw [Int.toNat_natCast, List.getD_eq_getElem?_getD, List.getElem?_eq_getElem hnm, Option.getD_some]
    rw [e]
    exact (done2_any hg hx hm hnr hnc hX hM n1 n2 n3 kk rn (by omega) a b nn hnm (by omega)).mono fun e w' h => ⟨_, hs.upd rn _, by simp, rfl, hWX.set (Em.wd_get hWM hnm) _, hWM, h⟩
  by_cases o4 : op = 4
  · subst o4
    rw [if_neg (by decide), if_pos (by decide)] at hb
    rw [if_neg (by decide), if_neg (by decide), if_pos rfl] at h1
    rw [Bool.or_eq_false_iff] at hb
    obtain ⟨rn, rfl, hr⟩ := Em.nat_of (Em.lacks_ok hb.1 r (by simp))
    have h2 : Cd.has nc n 1 = true := by simpa using hb.2
    unfold Cd.has at h2
    rw [Bool.and_eq_true, decide_eq_true_iff, decide_eq_true_iff] at h2
    obtain ⟨nn, rfl⟩ : ∃ q : Nat, n = (q : Int) := ⟨n.toNat, by omega⟩
    have hnm : nn < M.length := by omega
    injection h1 with h1
    subst h1
    rw [Int.toNat_natCast, hget rn (by omega)]
    exact (done4_any hg hx hm hnr hnc hX hM n1 n2 n3 kk rn (by omega) a b nn hnm (by omega)).mono fun e w' h => ⟨_, hs.same, rfl, by simp, hWX, hWM.set (Em.wd_get hWX (by omega)) _, h⟩
  by_cases o3 : op = 3
  · subst o3
    rw [if_neg (by decide), if_neg (by decide), if_pos (by decide)] at hb
    rw [if_neg (by decide), if_neg (by decide), if_neg (by decide), if_pos rfl] at h1
    rw [Bool.or_eq_false_iff, Bool.or_eq_false_iff] at hb
    obtain ⟨⟨hb1, hb2⟩, hb3⟩ := hb
    obtain ⟨rn, rfl, hr⟩ := Em.nat_of (Em.lacks_ok hb1 r (by simp))
    obtain ⟨an, rfl, ha⟩ := Em.nat_of (Em.lacks_ok hb1 a (by simp))
    have h2 : Cd.has nc n b = true := by simpa using hb3
    unfold Cd.has at h2
    rw [Bool.and_eq_true, decide_eq_true_iff, decide_eq_true_iff] at h2
    rw [decide_eq_false_iff_not] at hb2
    have han : an < X.length := by omega
    split at h1
    · cases h1
    rename_i hc
    rw [hget an han] at hc
    obtain ⟨nn, rfl⟩ : ∃ q : Nat, n = (q : Int) := ⟨n.toNat, by omega⟩
    obtain ⟨p, hp⟩ : ∃ q : Nat, X[an] = (q : Int) := ⟨X[an].toNat, by omega⟩
    have hpm : nn + p < M.length := by omega
    injection h1 with h1
    subst h1
    have e : Lo.rd M ((nn : Int) + f (an : Int)) = M[nn + p] := by
      unfold Lo.rd
      rw [hget an han, hp, show ((nn : Int) + (p : Int)).toNat = nn + p by omega, List.getD_eq_getElem?_getD, List.getElem?_eq_getElem hpm, Option.getD_some]
    rw [e]
    exact (done3_any hg hx hm hnr hnc hX hM n1 n2 n3 kk rn (by omega) b nn p an han hp (by omega) hpm (by omega)).mono fun e w' h => ⟨_, hs.upd rn _, by simp, rfl, hWX.set (Em.wd_get hWM hpm) _, hWM, h⟩
  by_cases o5 : op = 5
  · subst o5
    rw [if_neg (by decide), if_neg (by decide), if_pos (by decide)] at hb
    rw [if_neg (by decide), if_neg (by decide), if_neg (by decide), if_neg (by decide), if_pos rfl] at h1
    rw [Bool.or_eq_false_iff, Bool.or_eq_false_iff] at hb
    obtain ⟨⟨hb1, hb2⟩, hb3⟩ := hb
    obtain ⟨rn, rfl, hr⟩ := Em.nat_of (Em.lacks_ok hb1 r (by simp))
    obtain ⟨an, rfl, ha⟩ := Em.nat_of (Em.lacks_ok hb1 a (by simp))
    have h2 : Cd.has nc n b = true := by simpa using hb3
    unfold Cd.has at h2
    rw [Bool.and_eq_true, decide_eq_true_iff, decide_eq_true_iff] at h2
    rw [decide_eq_false_iff_not] at hb2
    have han : an < X.length := by omega
    split at h1
    · cases h1
    rename_i hc
    rw [hget an han] at hc
    obtain ⟨nn, rfl⟩ : ∃ q : Nat, n = (q : Int) := ⟨n.toNat, by omega⟩
    obtain ⟨p, hp⟩ : ∃ q : Nat, X[an] = (q : Int) := ⟨X[an].toNat, by omega⟩
    have hpm : nn + p < M.length := by omega
    injection h1 with h1
    subst h1
    rw [hget rn (by omega), hget an han, hp, show ((nn : Int) + (p : Int)).toNat = nn + p by omega]
    exact (done5_any hg hx hm hnr hnc hX hM n1 n2 n3 kk rn (by omega) b nn p an han hp (by omega) hpm (by omega)).mono fun e w' h => ⟨_, hs.same, rfl, by simp, hWX, hWM.set (Em.wd_get hWX (by omega)) _, h⟩
  by_cases o6 : op = 6
  · subst o6
    rw [if_neg (by decide), if_neg (by decide), if_neg (by decide), if_pos rfl] at hb
    rw [if_neg (by decide), if_neg (by decide), if_neg (by decide), if_neg (by decide), if_neg (by decide), if_pos rfl] at h1
    rw [Bool.or_eq_false_iff] at hb
    obtain ⟨rn, rfl, hr⟩ := Em.nat_of (Em.lacks_ok hb.1 r (by simp))
    obtain ⟨an, rfl, ha⟩ := Em.nat_of (Em.lacks_ok hb.1 a (by simp))
    injection h1 with h1
    subst h1
    rw [hget an (by omega)]
    exact (done6_any hg hx hm hnr hnc hX hM n1 n2 n3 kk rn (by omega) b n an (by omega) hWX).mono fun e w' h => ⟨_, hs.upd rn _, by simp, rfl, hWX.set (apT_I64 (Em.wd_get hWX (by omega)) I0) _, hWM, h⟩
  by_cases o7 : op = 7
  · subst o7
    rw [if_neg (by decide), if_neg (by decide), if_neg (by decide), if_neg (by decide), if_pos rfl] at hb
    rw [if_neg (by decide), if_neg (by decide), if_neg (by decide), if_neg (by decide), if_neg (by decide), if_neg (by decide), if_pos rfl] at h1
    rw [Bool.or_eq_false_iff] at hb
    obtain ⟨rn, rfl, hr⟩ := Em.nat_of (Em.lacks_ok hb.1 r (by simp))
    obtain ⟨an, rfl, ha⟩ := Em.nat_of (Em.lacks_ok hb.1 a (by simp))
    obtain ⟨bn, rfl, hbn⟩ := Em.nat_of (Em.lacks_ok hb.1 b (by simp))
    injection h1 with h1
    subst h1
    rw [hget an (by omega), hget bn (by omega)]
    exact (done7_any hg hx hm hnr hnc hX hM n1 n2 n3 kk rn (by omega) n an (by omega) bn (by omega) hWX).mono fun e w' h => ⟨_, hs.upd rn _, by simp, rfl, hWX.set (apT_I64 (Em.wd_get hWX (by omega)) (Em.wd_get hWX (by omega))) _, hWM, h⟩
  by_cases o8 : op = 8
  · subst o8
    rw [if_neg (by decide), if_neg (by decide), if_neg (by decide), if_neg (by decide), if_neg (by decide), if_pos rfl] at hb
    rw [if_neg (by decide), if_neg (by decide), if_neg (by decide), if_neg (by decide), if_neg (by decide), if_neg (by decide), if_neg (by decide), if_pos rfl] at h1
    obtain ⟨rn, rfl, hr⟩ := Em.nat_of (Em.lacks_ok hb r (by simp))
    obtain ⟨an, rfl, ha⟩ := Em.nat_of (Em.lacks_ok hb a (by simp))
    obtain ⟨bn, rfl, hbn⟩ := Em.nat_of (Em.lacks_ok hb b (by simp))
    injection h1 with h1
    subst h1
    by_cases hz : X[rn] = 0
    · rw [if_pos ((hget rn (by omega)).trans hz), hget bn (by omega)]
      exact (done8a_any hg hx hm hnr hnc hX hM n1 n2 n3 kk rn (by omega) n an (by omega) bn (by omega) hz).mono fun e w' h => ⟨_, hs.upd rn _, by simp, rfl, hWX.set (Em.wd_get hWX (by omega)) _, hWM, h⟩
    · rw [if_neg (fun hh => hz ((hget rn (by omega)).symm.trans hh)), hget an (by omega)]
      exact (done8b_any hg hx hm hnr hnc hX hM n1 n2 n3 kk rn (by omega) n an (by omega) bn (by omega) hz).mono fun e w' h => ⟨_, hs.upd rn _, by simp, rfl, hWX.set (Em.wd_get hWX (by omega)) _, hWM, h⟩
  by_cases o9 : op = 9
  · subst o9
    rw [if_neg (by decide), if_neg (by decide), if_neg (by decide), if_neg (by decide), if_neg (by decide), if_neg (by decide), if_pos rfl] at hb
    rw [if_neg (by decide), if_neg (by decide), if_neg (by decide), if_neg (by decide), if_neg (by decide), if_neg (by decide), if_neg (by decide), if_neg (by decide), if_pos rfl] at h1
    obtain ⟨rn, rfl, hr⟩ := Em.nat_of (Em.lacks_ok hb r (by simp))
    obtain ⟨an, rfl, ha⟩ := Em.nat_of (Em.lacks_ok hb a (by simp))
    injection h1 with h1
    subst h1
    rw [hget an (by omega)]
    exact (done9_any hg hx hm hnr hnc hX hM n1 n2 n3 kk rn (by omega) b n an (by omega)).mono fun e w' h => ⟨_, hs.upd rn _, by simp, rfl, hWX.set (Em.wd_get hWX (by omega)) _, hWM, h⟩
  · exfalso
    rw [if_neg o1, if_neg (by omega), if_neg (by omega), if_neg o6, if_neg o7, if_neg o8, if_neg o9, if_neg h10, if_neg h11] at hb
    cases hb
/-- an instruction, no loop's, that goes astray -/
theorem done62_none {w : World} {gb rb cb nc cc nr cr : Nat} {v0 v1 v2 v3 v4 v5 v6 : Value} {X : List Int} {st : Int} {s : Em.St} (hg : GAt w gb cb nc cc v0 v1 v2 v3 v4 v5 v6 st) (hx : LX w rb X) (hm : LX w cb s.M) (hnr : nr = X.length) (hnc : nc ≤ s.M.length) (hX : X.length ≤ 40) (hM : nc ≤ 6000) (n1 : gb ≠ rb) (n2 : gb ≠ cb) (n3 : rb ≠ cb) {x : Cd.In} (hR : Em.Rs (nc : Int) (X.length : Int) x) (h10 : x.op ≠ 10) (h11 : x.op ≠ 11) (hn : I64 x.n) (hs : Em.RX s X) (h1 : Em.one x s = none) :
    Calls Tryd.prog 43 #[.pointer (some ⟨gb, 0, none⟩), .agg #[.int .i64 x.op, .int .i64 x.k, .int .i64 x.r, .int .i64 x.a, .int .i64 x.b, .int .i64 x.n], .slice (some ⟨rb, 0, none⟩) nr cr] w (DOneN w gb rb cb nc cc v0 v1 v2 v3 v4 v5 v6 st X s.M) := by
  obtain ⟨op, kk, r, a, b, n⟩ := x
  obtain ⟨f, M⟩ := s
  have hb := hR.ok
  unfold Cd.bars at hb
  unfold Em.one at h1
  dsimp only at hb h1 h10 h11 hn hm hnc hM ⊢
  have hget : ∀ (i : Nat) (hi : i < X.length), f (i : Int) = X[i] := hs
  by_cases o1 : op = 1
  · rw [if_pos o1] at h1
    cases h1
  rw [if_neg o1] at h1
  by_cases o2 : op = 2
  · rw [if_pos o2] at h1
    cases h1
  rw [if_neg o2] at h1
  by_cases o4 : op = 4
  · rw [if_pos o4] at h1
    cases h1
  rw [if_neg o4] at h1
  by_cases o3 : op = 3
  · subst o3
    rw [if_pos rfl] at h1
    rw [if_neg (by decide), if_neg (by decide), if_pos (by decide)] at hb
    rw [Bool.or_eq_false_iff, Bool.or_eq_false_iff] at hb
    obtain ⟨⟨hb1, hb2⟩, hb3⟩ := hb
    obtain ⟨rn, rfl, hr⟩ := Em.nat_of (Em.lacks_ok hb1 r (by simp))
    obtain ⟨an, rfl, ha⟩ := Em.nat_of (Em.lacks_ok hb1 a (by simp))
    have han : an < X.length := by omega
    split at h1
    · rename_i hc
      rw [hget an han] at hc
      by_cases hp : X[an] < 0
      · exact done3n_any hg hx hm hnr hnc hX hM n1 n2 n3 kk rn (by omega) b n an han hp
      · exact done3m_any hg hx hm hnr hnc hX hM n1 n2 n3 kk rn (by omega) b n an han hp (by omega)
    · cases h1
  rw [if_neg o3] at h1
  by_cases o5 : op = 5
  · subst o5
    rw [if_pos rfl] at h1
    rw [if_neg (by decide), if_neg (by decide), if_pos (by decide)] at hb
    rw [Bool.or_eq_false_iff, Bool.or_eq_false_iff] at hb
    obtain ⟨⟨hb1, hb2⟩, hb3⟩ := hb
    obtain ⟨rn, rfl, hr⟩ := Em.nat_of (Em.lacks_ok hb1 r (by simp))
    obtain ⟨an, rfl, ha⟩ := Em.nat_of (Em.lacks_ok hb1 a (by simp))
    have han : an < X.length := by omega
    split at h1
    · rename_i hc
      rw [hget an han] at hc
      by_cases hp : X[an] < 0
      · exact done5n_any hg hx hm hnr hnc hX hM n1 n2 n3 kk rn (by omega) b n an han hp
      · exact done5m_any hg hx hm hnr hnc hX hM n1 n2 n3 kk rn (by omega) b n an han hp (by omega)
    · cases h1
  rw [if_neg o5] at h1
  exfalso
  by_cases o6 : op = 6
  · rw [if_pos o6] at h1
    cases h1
  rw [if_neg o6] at h1
  by_cases o7 : op = 7
  · rw [if_pos o7] at h1
    cases h1
  rw [if_neg o7] at h1
  by_cases o8 : op = 8
  · rw [if_pos o8] at h1
    cases h1
  rw [if_neg o8] at h1
  by_cases o9 : op = 9
  · rw [if_pos o9] at h1
    cases h1
  rw [if_neg o9] at h1
  cases h1
end Dx
end Go.Proofs.YtkgbmgpdehmiiaaDoor
