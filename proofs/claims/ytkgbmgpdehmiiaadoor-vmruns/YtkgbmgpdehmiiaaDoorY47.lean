import Derived.Test.YtkgbmgpdehmiiaaDoorY45
import Derived.Test.YtkgbmgpdehmiiaaDoorY44
import Derived.Test.YtkgbmgpdehmiiaaDoorY30
import Derived.Test.YtkgbmgpdehmiiaaDoorY25
import Derived.WalkKit
import Derived.WalkSpells
import Derived.IntWalk
import Derived.Deep.Cut
import Derived.Deep.LoopGhost
import Derived.Laws.Cover1
import Derived.Lib.Hide
set_option linter.unusedVariables false
set_option linter.unusedSimpArgs false
set_option maxHeartbeats 64000000
set_option maxRecDepth 100000
namespace Go.Proofs.YtkgbmgpdehmiiaaDoor
open Go.RowKit Go.IntWalk
set_option linter.unusedVariables false
set_option linter.unusedSimpArgs false
theorem HRow.llAt2 {ok : Nat → Prop} {w : World} {v : Value} {l : List (List Int)} (h : HRow kLL ok w v l) :
    ∃ ao cap, v = .slice ao l.length cap ∧ l.length ≤ cap ∧ cap ≤ maxLen ∧ ∀ i (h : i < l.length), ∃ b o u, ao = some ⟨b, o, none⟩ ∧ b < w.heap.size ∧ ok b ∧ w.cell? ⟨b, o + i, none⟩ = some u ∧ HInts ok w u l[i] := by
  obtain ⟨C, ⟨ao, cap, hv, h1, h2, h3⟩, hC⟩ := h
  refine ⟨ao, cap, hv, h1, h2, fun i hi => ?_⟩
  obtain ⟨b, o, ha, hob, hb, hc⟩ := h3 (by omega)
  obtain ⟨u, e, hu⟩ := hC i hi
  have := (hc i hi).2 0 (by decide)
  rw [e] at this
  exact ⟨b, o, u, ha, hb, hob, by simpa [kLL] using this, hu⟩
theorem HRow.under' {α : Type} {T : Kind α} {ok : Nat → Prop} {w w' : World} {v : Value} {l : List α} (h : HRow T ok w v l) (b : Below w.heap.size w w') : HRow T ok w' v l := HRow.keep h b.size fun i _ hl => b.block i hl
theorem HLp.wide {ok ok' : Nat → Prop} {w : World} {aP aG aS : Option Addr} {cP cG cS : Nat} {L : Lo.Lp} (h : HLp ok w aP aG aS cP cG cS L) (hk : ∀ i, ok i → i < w.heap.size → ok' i) : HLp ok' w aP aG aS cP cG cS L := ⟨h.P.wide hk, h.G.wide hk, h.S.wide hk, h.W⟩
end Go.Proofs.YtkgbmgpdehmiiaaDoor
namespace Go.Proofs.YtkgbmgpdehmiiaaDoor
open Go.RowKit Go.IntWalk
set_option linter.unusedVariables false
set_option linter.unusedSimpArgs false
namespace Em
open Lo Cd
theorem runF_free : ∀ (l : List In) (i : Nat) (s : St) (st st' : Int), (runF l i s st).s = (runF l i s st').s ∧ (runF l i s st).p = (runF l i s st').p
  | [], i, s, st, st' => ⟨rfl, rfl⟩
  | x :: l, i, s, st, st' => by
    rcases h : one x s with _ | s'
    · rw [runF_none h, runF_none h]
      exact ⟨rfl, rfl⟩
    · rw [runF_some h, runF_some h]
      exact runF_free l (i + 1) s' _ _
theorem loopF_free (r : Int) (b : List In) (i : Nat) : ∀ (n : Nat) (k : Int) (s : St) (st st' : Int), (loopF r b i n k s st).s = (loopF r b i n k s st').s ∧ (loopF r b i n k s st).p = (loopF r b i n k s st').p
  | 0, k, s, st, st' => ⟨rfl, rfl⟩
  | n + 1, k, s, st, st' => by
    obtain ⟨e1, e2⟩ := runF_free b i ⟨upd s.R r k, s.M⟩ st st'
    rw [loopF, loopF]
    by_cases hp : (runF b i ⟨upd s.R r k, s.M⟩ st').p < 0
    · rw [if_pos hp, if_pos (by rw [e2]; exact hp), e1]
      exact loopF_free r b i n (k + 1) _ _ _
    · rw [if_neg hp, if_neg (by rw [e2]; exact hp)]
      exact ⟨e1, e2⟩
theorem allF_free : ∀ (l : List In) (i : Nat) (s : St) (st st' : Int), (allF l i s st).s = (allF l i s st').s ∧ (allF l i s st).p = (allF l i s st').p
  | [], i, s, st, st' => by rw [allF_nil, allF_nil]; exact ⟨rfl, rfl⟩
  | x :: l, i, s, st, st' => by
    by_cases h10 : x.op = 10
    · obtain ⟨e1, e2⟩ := loopF_free x.r (cutEnd l).1 (i + 1) x.n.toNat 0 s (wrap64 (st + 1)) (wrap64 (st' + 1))
      rw [allF, if_pos h10, allF, if_pos h10]
      by_cases hp : (loopF x.r (cutEnd l).1 (i + 1) x.n.toNat 0 s (wrap64 (st' + 1))).p < 0
      · rw [if_pos hp, if_pos (by rw [e2]; exact hp), e1]
        exact allF_free (cutEnd l).2 _ _ _ _
      · rw [if_neg hp, if_neg (by rw [e2]; exact hp)]
        exact ⟨e1, e2⟩
    · rcases h : one x s with _ | s'
      · rw [allF_none h10 h, allF_none h10 h]
        exact ⟨rfl, rfl⟩
      · rw [allF_some h10 h, allF_some h10 h]
        exact allF_free l (i + 1) s' _ _
termination_by l => l.length
decreasing_by
  · have := cutEnd_len l
    simp
    omega
  · simp
theorem steps_both {l : List In} {s : St} {st : Int} (h : I64 st) (hg : Cd.go 10 11 none l ≠ none) (hp : (allF l 0 s 0).p < 0) : wrap64 (st + (allF l 0 s 0).st) = (allF l 0 s st).st := by
  obtain ⟨z, hz⟩ : ∃ z, Cd.go 10 11 none l = some z := by
    cases hq : Cd.go 10 11 none l with
    | none => exact absurd hq hg
    | some z => exact ⟨z, rfl⟩
  rw [allF_steps l 0 s 0 z (by unfold I64; omega) hz hp, allF_steps l 0 s st z h hz (by rw [(allF_free l 0 s st 0).2]; exact hp)]
  unfold wrap64
  omega
end Em
theorem vbad_fine (B : List Int) : ∀ (P X : List Int) (n : Nat), ((∀ (j : Nat) (h1 : j < X.length) (h2 : j < P.length), Fine B P[j] X[j]) ∧ vbad (fun j => decide (j ∈ B)) n P X = (0, 0)) ∨ ∃ (i0 : Nat) (h1 : i0 < X.length) (h2 : i0 < P.length), ¬ Fine B P[i0] X[i0] ∧ (∀ (j : Nat) (h1 : j < X.length) (h2 : j < P.length), j < i0 → Fine B P[j] X[j]) ∧ vbad (fun j => decide (j ∈ B)) n P X = (17, ((n + i0 : Nat) : Int))
  | [], X, n => .inl ⟨fun j h1 h2 => absurd h2 (by simp), by cases X <;> rfl⟩
  | p :: P, [], n => .inl ⟨fun j h1 h2 => absurd h1 (by simp), rfl⟩
  | p :: P, x :: X, n => by
    rw [vbad]
    by_cases hb : decide (p ∈ B) = true ∧ x ≠ 0 ∧ x ≠ 1
    · refine .inr ⟨0, by simp, by simp, ?_, fun j _ _ h => absurd h (Nat.not_lt_zero _), by rw [if_pos hb]; rfl⟩
      rintro (h | h | h)
      · exact hb.2.1 h
      · exact hb.2.2 h
      · exact h (of_decide_eq_true hb.1)
    · have hf : Fine B p x := by
        by_cases h0 : x = 0
        · exact .inl h0
        · by_cases h1 : x = 1
          · exact .inr (.inl h1)
          · exact .inr (.inr fun hm => hb ⟨decide_eq_true hm, h0, h1⟩)
      rw [if_neg hb]
      rcases vbad_fine B P X (n + 1) with ⟨h1, h2⟩ | ⟨i0, h1, h2, h3, h4, h5⟩
      · refine .inl ⟨fun j q1 q2 => ?_, h2⟩
        cases j with
        | zero => exact hf
        | succ j => exact h1 j (by simpa using q1) (by simpa using q2)
      · refine .inr ⟨i0 + 1, by simpa using h1, by simpa using h2, h3, fun j q1 q2 q3 => ?_, by rw [h5]; congr 2; omega⟩
        cases j with
        | zero => exact hf
        | succ j => exact h4 j (by simpa using q1) (by simpa using q2) (by omega)
theorem vfault_cases (B P X : List Int) : (X.length ≠ P.length ∧ vfault (fun j => decide (j ∈ B)) P X = (17, -1)) ∨ (X.length = P.length ∧ (∀ (j : Nat) (h1 : j < X.length) (h2 : j < P.length), Fine B P[j] X[j]) ∧ vfault (fun j => decide (j ∈ B)) P X = (0, 0)) ∨ (X.length = P.length ∧ ∃ (i0 : Nat) (h1 : i0 < X.length) (h2 : i0 < P.length), ¬ Fine B P[i0] X[i0] ∧ (∀ (j : Nat) (h1 : j < X.length) (h2 : j < P.length), j < i0 → Fine B P[j] X[j]) ∧ vfault (fun j => decide (j ∈ B)) P X = (17, (i0 : Int))) := by
  unfold vfault
  by_cases hl : X.length = P.length
  · rw [if_pos hl]
    rcases vbad_fine B P X 0 with ⟨h1, h2⟩ | ⟨i0, h1, h2, h3, h4, h5⟩
    · exact .inr (.inl ⟨hl, h1, h2⟩)
    · exact .inr (.inr ⟨hl, i0, h1, h2, h3, h4, by rw [h5]; congr 2; omega⟩)
  · rw [if_neg hl]
    exact .inl ⟨hl, rfl⟩
/-- what a row of the document's answers -/
structure DRowP (w : World) (gb cb nc cc : Nat) (v0 v1 v2 v3 v4 v5 v6 : Value) (st : Int) (P B G : List Int) (C : List Cd.In) (M X : List Int) (e : Ending) (w' : World) : Prop where
  bad : (vfault (fun j => decide (j ∈ B)) P X).1 ≠ 0 → e = .returned (.tuple #[.slice none 0 0, .agg #[.int .i64 (vfault (fun j => decide (j ∈ B)) P X).1, .int .i64 (vfault (fun j => decide (j ∈ B)) P X).2]]) ∧ GAt w' gb cb nc cc v0 v1 v2 v3 v4 v5 v6 st ∧ LX w' cb M
  far : (vfault (fun j => decide (j ∈ B)) P X).1 = 0 → ¬ (Em.allF C 0 ⟨fun _ => 0, Lo.putL M P X⟩ 0).p < 0 → e = .returned (.tuple #[.slice none 0 0, .agg #[.int .i64 16, .int .i64 (Em.allF C 0 ⟨fun _ => 0, Lo.putL M P X⟩ 0).p]]) ∧ ∃ cb' cc', GAt w' gb cb' nc cc' v0 v1 v2 v3 v4 v5 v6 st ∧ LX w' cb' M ∧ nc ≤ cc' ∧ cc' ≤ maxLen ∧ w.heap.size ≤ cb'
  good : (vfault (fun j => decide (j ∈ B)) P X).1 = 0 → (Em.allF C 0 ⟨fun _ => 0, Lo.putL M P X⟩ 0).p < 0 → ∃ v, e = .returned (.tuple #[v, .agg #[.int .i64 0, .int .i64 0]]) ∧ OwnL kLong w.heap.size w' v (G.map fun g => Lo.rd (Em.allF C 0 ⟨fun _ => 0, Lo.putL M P X⟩ 0).s.M g) ∧ GAt w' gb cb nc cc v0 v1 v2 v3 v4 v5 v6 (wrap64 (st + (Em.allF C 0 ⟨fun _ => 0, Lo.putL M P X⟩ 0).st)) ∧ LX w' cb (Em.allF C 0 ⟨fun _ => 0, Lo.putL M P X⟩ 0).s.M
  a : Aside [gb, cb] w.heap.size w w'
theorem docRow_any {w : World} {gb cb nc cc nr : Nat} {v0 v2 : Value} {st : Int} {okL : Nat → Prop} {aP aB aG aL aI : Option Addr} {cP cB cG cL cI : Nat} {P B G X M : List Int} {C : List Cd.In} (hg : GAt w gb cb nc cc v0 (.int .i64 (nr : Int)) v2 (.slice aP P.length cP) (.slice aB B.length cB) (.slice aG G.length cG) (.slice aL C.length cL) st) (hm : LX w cb M) (hP : HInts okL w (.slice aP P.length cP) P) (hB : HInts okL w (.slice aB B.length cB) B) (hG : HInts okL w (.slice aG G.length cG) G) (hL : HIns okL w (.slice aL C.length cL) C) (hI : HInts okL w (.slice aI X.length cI) X) (hok : ∀ i, okL i → i ≠ gb ∧ i ≠ cb) (hnc : M.length = nc) (hn0 : 1 ≤ nc) (hM : nc ≤ 6000) (hcc : nc ≤ cc ∧ cc ≤ maxLen) (n2 : gb ≠ cb) (hR : 1 ≤ nr ∧ nr ≤ 40) (hRs : ∀ x ∈ C, InOk nc nr x) (hgo : Cd.go 10 11 none C ≠ none) (hWM : Lo.Wd M) (hWI : Lo.Wd X) (hCl : C.length ≤ 200000) (hPx : ∀ p ∈ P, 0 ≤ p ∧ p < (nc : Int)) (hGx : ∀ p ∈ G, 0 ≤ p ∧ p < (nc : Int)) (hPl : P.length ≤ 6000) (hGl : G.length ≤ 120000) (hst : I64 st) :
    Calls Tryd.prog 14 #[.pointer (some ⟨gb, 0, none⟩), .slice aI X.length cI] w (DRowP w gb cb nc cc v0 (.int .i64 (nr : Int)) v2 (.slice aP P.length cP) (.slice aB B.length cB) (.slice aG G.length cG) (.slice aL C.length cL) st P B G C M X) := by
  rcases vfault_cases B P X with ⟨hl, hv⟩ | ⟨hl, hf, hv⟩ | ⟨hl, i0, h1, h2, h3, h4, hv⟩
  · refine (Dx.drow19_len hg hm hl).mono ?_
    rintro e w' ⟨h1, h2, h3, h4⟩
    exact ⟨fun _ => ⟨by rw [hv]; exact h1, h2, h3⟩, fun h => absurd h (by rw [hv]; decide), fun h => absurd h (by rw [hv]; decide), h4⟩
  · have hI2 := hI
    rw [hl] at hI2 ⊢
    refine (row14_right hg hm hP hB hG hL hI2 hok hnc hn0 hM hcc n2 hR hRs hgo hl hWM hWI hCl hPx hGx hPl hGl hf).mono ?_
    intro e w' h
    have q := Em.allF_free C 0 ⟨fun _ => 0, Lo.putL M P X⟩ st 0
    refine ⟨fun h => absurd (by rw [hv]) h, fun _ hp => ?_, fun _ hp => ?_, h.a⟩
    · obtain ⟨h1, h2⟩ := h.far (by rw [q.2]; exact hp)
      exact ⟨by rw [h1, q.2], h2⟩
    · obtain ⟨v, h1, h2, h3, h4, h5, h6⟩ := h.good (by rw [q.2]; exact hp)
      rw [q.1] at h2 h4
      rw [Em.steps_both hst hgo hp]
      exact ⟨v, h1, h2, h3, h4⟩
  · have hI2 := hI
    rw [hl] at hI2 ⊢
    refine (Dx.drow19_bool hg hm hP hB hI2 hok hl hPl i0 h1 h2 h3 h4).mono ?_
    rintro e w' ⟨q1, q2, q3, q4⟩
    exact ⟨fun _ => ⟨by rw [hv]; exact q1, q2, q3⟩, fun h => absurd h (by rw [hv]; simp), fun h => absurd h (by rw [hv]; simp), q4⟩
end Go.Proofs.YtkgbmgpdehmiiaaDoor
