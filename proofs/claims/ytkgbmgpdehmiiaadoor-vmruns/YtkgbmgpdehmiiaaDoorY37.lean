import Derived.Test.YtkgbmgpdehmiiaaDoorY36
import Derived.Test.YtkgbmgpdehmiiaaDoorY31
import Derived.WalkKit
import Derived.WalkSpells
import Derived.IntWalk
import Derived.Deep.Cut
import Derived.Deep.LoopGhost
import Derived.Laws.Cover1
import Derived.Lib.Hide
set_option linter.unusedVariables false
set_option linter.unusedSimpArgs false
set_option maxHeartbeats 64000000
set_option maxRecDepth 100000
namespace Go.Proofs.YtkgbmgpdehmiiaaDoor
open Go.RowKit Go.IntWalk
set_option linter.unusedVariables false
set_option linter.unusedSimpArgs false
section
variable {P : Program} {ops : Array Oper} {Q : Exit → Act → World → Prop} {md : Region.Mode} {S : World → Prop} {late : Nat → Bool}
/-- the late ones wait for number i, one by the other -/
def waitBy (md : Region.Mode) (ops : Array Oper) (late : Nat → Bool) (listed : Array Bool) (i : Nat) (Wt : List Nat) : Bool :=
  ((List.range ops.size).all fun j => !late j || listed.getD j true || Wt.contains j) &&
    Wt.all fun j => !(listed.getD j true) && ((ops[j]?).map (·.after.any fun e => Region.binds md e && (e.on == i || Wt.contains e.on))).getD false
theorem waitBy_late {listed : Array Bool} {i : Nat} {Wt : List Nat} (h : waitBy md ops late listed i Wt = true) (j : Nat) (oj : Oper) (hj : ops[j]? = some oj) (hun : listed.getD j true = false) (hl : late j = true) : j ∈ Wt := by
  unfold waitBy at h
  rw [Bool.and_eq_true] at h
  have hlt : j < ops.size := (Array.getElem?_eq_some_iff.1 hj).1
  have h1 := List.all_eq_true.1 h.1 j (List.mem_range.2 hlt)
  rw [hl, hun] at h1
  simpa using h1
theorem waitBy_edge {listed : Array Bool} {i : Nat} {Wt : List Nat} (h : waitBy md ops late listed i Wt = true) (j : Nat) (hj : j ∈ Wt) : listed.getD j true = false ∧ ∀ oj, ops[j]? = some oj → ∃ e ∈ oj.after, Region.binds md e = true ∧ (e.on = i ∨ e.on ∈ Wt) := by
  unfold waitBy at h
  rw [Bool.and_eq_true] at h
  have h1 := List.all_eq_true.1 h.2 j hj
  rw [Bool.and_eq_true] at h1
  refine ⟨by simpa using h1.1, fun oj ho => ?_⟩
  have h2 := h1.2
  rw [ho, Option.map_some, Option.getD_some] at h2
  obtain ⟨e, he, h3⟩ := Array.any_eq_true'.1 h2
  rw [Bool.and_eq_true, Bool.or_eq_true] at h3
  exact ⟨e, he, h3.1, by simpa using h3.2⟩
theorem wpAnyL_first2 {i : Nat} {oi : Oper} {v : Value} (Wt : List Nat) (hi : ops[i]? = some oi) (hsel : ∀ (j : Nat) (o : Oper) cs b, ops[j]? = some o → o.op ≠ .select cs b)
    (hQ : ∀ c a w, Q (.panic c) (a.put oi.dst v) w → Q (.panic c) a w) (hedge : ∀ j ∈ Wt, ∀ oj, ops[j]? = some oj → ∃ e ∈ oj.after, Region.binds md e = true ∧ (e.on = i ∨ e.on ∈ Wt)) :
    ∀ (fuel : Nat) (listed : Array Bool) (a : Act) (w : World),
      (∀ j oj, ops[j]? = some oj → j ≠ i → listed.getD j true = false → (∀ e ∈ oj.after, Region.binds md e = true → e.on ≠ i) → oi.apart ops oj = true) →
      (∀ j oj, ops[j]? = some oj → listed.getD j true = false → late j = true → j ∈ Wt) →
      (∀ j ∈ Wt, listed.getD j true = false) →
      i ∈ Region.ready md ops listed → YieldsIf P ops S oi v a → S w →
      wpAnyL P md ops Q S late fuel (listed.setIfInBounds i true) (a.put oi.dst v) w → wpAnyL P md ops Q S late (fuel + 1) listed a w := by
  intro fuel
  induction fuel with
  | zero =>
    intro listed a w _ _ _ hr hy hS H
    refine ⟨fun h => (by rw [h] at hr; cases hr), fun j hj => ?_⟩
    by_cases hji : j = i
    · subst hji; exact hy.wpOp hi hS ⟨fun _ => hS, H⟩
    · have := ready_mono hj hji
      rw [H.1] at this
      cases this
  | succ fuel ih =>
    intro listed a w hfree hwait hWt hr hy hS H
    refine ⟨fun h => (by rw [h] at hr; cases hr), fun j hj => ?_⟩
    by_cases hji : j = i
    · subst hji; exact hy.wpOp hi hS ⟨fun _ => hS, H⟩
    · have h1 := H.2 j (ready_mono hj hji)
      obtain ⟨hjun, oj, hoj, hall⟩ := mem_ready.1 hj
      have hset : ∀ q, listed.getD q true = false → listed[q]?.getD true = false := fun q hq => by simpa using hq
      have hnotq : ∀ q, listed.getD q true = false → ∀ e ∈ oj.after, Region.binds md e = true → e.on ≠ q := fun q h0 e he hb heq => by
        have h1 := hall e he hb
        rw [heq] at h1
        rcases Nat.lt_or_ge q listed.size with h' | h'
        · simp [h'] at h0 h1; rw [h0] at h1; cases h1
        · simp [Array.getElem?_eq_none h'] at h1
      have hnot : ∀ e ∈ oj.after, Region.binds md e = true → e.on ≠ i := hnotq i (mem_ready.1 hr).1
      have hjW : j ∉ Wt := fun hm => by
        obtain ⟨e, he, hb, h2⟩ := hedge j hm oj hoj
        rcases h2 with h2 | h2
        · exact hnot e he hb h2
        · exact hnotq e.on (hWt _ h2) e he hb rfl
      have hearly : late j = false := by
        cases hl : late j with
        | false => rfl
        | true => exact absurd (hwait j oj hoj hjun hl) hjW
      have h2 := wpOp_putIf hoj (hfree j oj hoj hji hjun hnot) (fun cs b => hsel i oi cs b hi) (fun cs b => hsel j oj cs b hoj) hQ hy h1
      have hfree' : ∀ k ok, ops[k]? = some ok → k ≠ i → (listed.setIfInBounds j true).getD k true = false →
          (∀ e ∈ ok.after, Region.binds md e = true → e.on ≠ i) → oi.apart ops ok = true := fun k ok hk hki hun hno => by
        refine hfree k ok hk hki ?_ hno
        by_cases hjk : j = k
        · subst hjk; exact hjun
        · rw [getD_set_ne true hjk] at hun; exact hun
      have hwait' : ∀ k ok, ops[k]? = some ok → (listed.setIfInBounds j true).getD k true = false → late k = true → k ∈ Wt := fun k ok hk hun hl => by
        refine hwait k ok hk ?_ hl
        by_cases hjk : j = k
        · subst hjk; exact hjun
        · rw [getD_set_ne true hjk] at hun; exact hun
      have hWt' : ∀ k ∈ Wt, (listed.setIfInBounds j true).getD k true = false := fun k hk => by
        have hjk : j ≠ k := by
          rintro rfl
          exact hjW hk
        rw [getD_set_ne true hjk]
        exact hWt k hk
      refine wpOp_mono (fun a' w' h3 => ⟨h3.2.1, ih (listed.setIfInBounds j true) a' w' hfree' hwait' hWt' (ready_mono hr (Ne.symm hji)) h3.1 (h3.2.1 hearly) ?_⟩) h2
      rw [Array.setIfInBounds_comm _ _ hji]
      exact h3.2.2
theorem wpAnyL_take2 {i : Nat} (Wt : List Nat) {oi : Oper} {v : Value} {fuel : Nat} {listed : Array Bool} {a : Act} {w : World} (hi : ops[i]? = some oi)
    (hs : Region.noSelect ops = true) (hf : Region.free md ops listed i = true) (hr : (Region.ready md ops listed).contains i = true) (hl : waitBy md ops late listed i Wt = true)
    (hQ : ∀ c a w, Q (.panic c) (a.put oi.dst v) w → Q (.panic c) a w) (hS : S w) (hw : Region.wanted oi (yielded ops a.tmps) = true) (hy : ∀ w, S w → (execOp a.eval oi).run P w = .ok (.value v) w)
    (h : wpAnyL P md ops Q S late fuel (listed.setIfInBounds i true) (a.put oi.dst v) w) : wpAnyL P md ops Q S late (fuel + 1) listed a w :=
  wpAnyL_first2 Wt hi (Region.noSelect_spec hs) hQ (fun j hj oj ho => (waitBy_edge hl j hj).2 oj ho) fuel listed a w (Region.free_spec hi hf) (waitBy_late hl) (fun j hj => (waitBy_edge hl j hj).1) (by simpa using hr) (.inl ⟨hw, hy⟩) hS h
end
/-- a run between two instructions -/
structure RunS (w1 : World) (rb cb nc cc : Nat) (u0 : Value) (X : List Int) (s : Em.St) (pc dn lp tu : Int) (wr : World) : Prop where
  r : RB wr rb u0 (.slice (some ⟨cb, 0, none⟩) nc cc) X pc dn lp tu
  m : LX wr cb s.M
  rx : Em.RX s X
  lm : nc ≤ s.M.length
  wx : Lo.Wd X
  wm : Lo.Wd s.M
  a : Aside [rb, cb] w1.heap.size w1 wr
theorem RunS.under {w1 : World} {rb cb nc cc : Nat} {u0 : Value} {X : List Int} {s : Em.St} {pc dn lp tu : Int} {wr W : World} (h : RunS w1 rb cb nc cc u0 X s pc dn lp tu wr) (b : Below wr.heap.size wr W) : RunS w1 rb cb nc cc u0 X s pc dn lp tu W := ⟨h.r.under b, h.m.under b, h.rx, h.lm, h.wx, h.wm, h.a.trans (aside b) h.a.size⟩
theorem RunS.next {w1 : World} {rb cb nc cc : Nat} {u0 : Value} {X : List Int} {s : Em.St} {pc dn lp tu : Int} {wr : World} (h : RunS w1 rb cb nc cc u0 X s pc dn lp tu wr) (n1 : rb ≠ cb) (v : Int) : RunS w1 rb cb nc cc u0 X s pc v lp tu (wr.setCell ⟨rb, 43, none⟩ (.int .i64 v)) := ⟨h.r.setD v, h.m.keep (heap_set_other wr ⟨rb, 43, none⟩ _ (by show rb ≠ cb; exact n1)), h.rx, h.lm, h.wx, h.wm, h.a.trans (Aside.setCell (S := [rb, cb]) (B := wr.heap.size) (p := ⟨rb, 43, none⟩) (by simp) _) h.a.size⟩
theorem RunS.step {w1 : World} {rb cb nc cc : Nat} {u0 : Value} {X : List Int} {s : Em.St} {pc dn lp tu : Int} {wr : World} (h : RunS w1 rb cb nc cc u0 X s pc dn lp tu wr) (n1 : rb ≠ cb) (v : Int) : RunS w1 rb cb nc cc u0 X s v dn lp tu (wr.setCell ⟨rb, 42, none⟩ (.int .i64 v)) := ⟨h.r.setP v, h.m.keep (heap_set_other wr ⟨rb, 42, none⟩ _ (by show rb ≠ cb; exact n1)), h.rx, h.lm, h.wx, h.wm, h.a.trans (Aside.setCell (S := [rb, cb]) (B := wr.heap.size) (p := ⟨rb, 42, none⟩) (by simp) _) h.a.size⟩
/-- what an instruction does to a run -/
theorem step42 {w1 wr : World} {rb cb nc cc nr kb ko cL : Nat} {C : List Cd.In} {res : Em.Res} {k pc : Nat} {X : List Int} {s : Em.St} {dn lp tu : Int} (hI : Em.Inv C res k pc s dn lp tu) (hp : pc < C.length) (hS : RunS w1 rb cb nc cc (.slice (some ⟨kb, ko, none⟩) C.length cL) X s (pc : Int) dn lp tu wr) (hat : ∀ (i : Nat) (hi : i < C.length) W, Aside [rb, cb] w1.heap.size w1 W → InAt W kb (ko + i * 6) C[i]) (m1 : kb ≠ rb) (n1 : rb ≠ cb) (hM : nc ≤ 6000) (hnr : nr ≤ 40) (hRs : ∀ x ∈ C, InOk nc nr x) :
    (∀ W, Below wr.heap.size wr W → Calls Tryd.prog 42 #[.pointer (some ⟨rb, 0, none⟩), .pointer (some ⟨kb, ko + pc * 6, none⟩)] W fun e w' => e = .returned (.bool false) ∧ res.p = (pc : Int) ∧ RunS w1 rb cb nc cc (.slice (some ⟨kb, ko, none⟩) C.length cL) X res.s (pc : Int) dn lp tu w') ∨
    (∀ W, Below wr.heap.size wr W → Calls Tryd.prog 42 #[.pointer (some ⟨rb, 0, none⟩), .pointer (some ⟨kb, ko + pc * 6, none⟩)] W fun e w' => e = .returned (.bool true) ∧ ∃ (k' : Nat) (X' : List Int) (s' : Em.St) (pc' : Nat) (lp' tu' : Int), k' < k ∧ pc' < C.length ∧ Em.Inv C res k' (pc' + 1) s' (wrap64 (dn + 1)) lp' tu' ∧ RunS w1 rb cb nc cc (.slice (some ⟨kb, ko, none⟩) C.length cL) X' s' (pc' : Int) dn lp' tu' w') := by
  have hok := hRs _ (List.getElem_mem hp)
  have hreg : ∀ x ∈ C, x.op = 10 → 0 ≤ x.r ∧ x.r < (nr : Int) := fun x hx h10 => by
    have h := (hRs x hx).rs.ok
    unfold Cd.bars at h
    rw [h10] at h
    simp only [show ((10 : Int) = 1) = False by simp, show ((10 : Int) = 2) = False by simp, show ((10 : Int) = 3) = False by simp, show ((10 : Int) = 4) = False by simp, show ((10 : Int) = 5) = False by simp, show ((10 : Int) = 6) = False by simp, show ((10 : Int) = 7) = False by simp, show ((10 : Int) = 8) = False by simp, show ((10 : Int) = 9) = False by simp, if_false, or_self, if_true] at h
    rw [Bool.or_eq_false_iff] at h
    exact Em.lacks_ok h.1 x.r (by simp)
  by_cases h10 : C[pc].op = 10
  · right
    obtain ⟨k', hk, hI'⟩ := hI.loop hp h10
    intro W b
    have hS2 := hS.under b
    have hi := hat pc hp W hS2.a
    obtain ⟨rn, hrn, hr2⟩ := Em.nat_of (hreg _ (List.getElem_mem hp) h10)
    obtain ⟨y, hy⟩ : ∃ y, y = C[pc] := ⟨_, rfl⟩
    rw [← hy] at hi hrn h10 hI'
    obtain ⟨op, kk, r, a, bb, n⟩ := y
    dsimp only at hrn h10
    subst h10 hrn
    have hl := hS2.r.l
    refine (do10_any hS2.r hS2.m n1 m1 rn (by omega) hi).mono fun e w' h => ⟨h.e, k', X.set rn 0, ⟨Em.upd s.R (rn : Int) 0, s.M⟩, pc, (pc : Int), 0, hk, hp, hI', h.r, h.m, ?_, hS2.lm, hS2.wx.set (by unfold I64; omega) _, hS2.wm, hS2.a.trans h.a hS2.a.size⟩
    exact Em.RX.upd (f := s.R) (M := s.M) hS2.rx rn 0
  by_cases h11 : C[pc].op = 11
  · right
    obtain ⟨j, hj, rfl, hj10, t0, t1, hA, hB⟩ := hI.end_ hp h11
    intro W b
    have hS2 := hS.under b
    have hi := hat pc hp W hS2.a
    have hij := hat j hj W hS2.a
    obtain ⟨rn, hrn, hr2⟩ := Em.nat_of (hreg _ (List.getElem_mem hj) hj10)
    obtain ⟨y, hy⟩ : ∃ y, y = C[j] := ⟨_, rfl⟩
    rw [← hy] at hij hrn hA hB
    obtain ⟨x, hx⟩ : ∃ x, x = C[pc] := ⟨_, rfl⟩
    rw [← hx] at hi h11
    obtain ⟨op, kk, r, a, bb, n⟩ := y
    obtain ⟨op2, kk2, rr2, a2, bb2, nn2⟩ := x
    dsimp only at hrn h11 hA hB
    subst h11 hrn
    have hl := hS2.r.l
    have hnc : ∀ {w'}, Aside [rb] W.heap.size W w' → LX w' cb s.M := fun a => hS2.m.keep (a.block _ hS2.m.lt (by simpa using n1.symm))
    have hw : ∀ {w'}, Aside [rb] W.heap.size W w' → Aside [rb, cb] W.heap.size W w' := fun a => ⟨a.os, a.tape, a.output, a.size, fun k hk hs => a.block k hk (by simp at hs ⊢; exact hs.1)⟩
    by_cases hlt : tu + 1 < n
    · obtain ⟨k', hk, hI'⟩ := hA hlt
      refine (do11_any hi (turn57_a hS2.r m1 hj ⟨t0, t1⟩ rn (by omega) hlt hij) (fun e w' h => h.e)).mono ?_
      rintro e w' ⟨he, h⟩
      refine ⟨he, k', X.set rn (tu + 1), ⟨Em.upd s.R (rn : Int) (tu + 1), s.M⟩, j, (j : Int), tu + 1, hk, hj, hI', h.r, hnc h.a, ?_, hS2.lm, hS2.wx.set (by unfold I64; omega) _, hS2.wm, hS2.a.trans (hw h.a) hS2.a.size⟩
      exact Em.RX.upd (f := s.R) (M := s.M) hS2.rx rn (tu + 1)
    · obtain ⟨k', hk, hI'⟩ := hB hlt
      refine (do11_any hi (turn57_b hS2.r m1 hj ⟨t0, t1⟩ hlt hij) (fun e w' h => h.e)).mono ?_
      rintro e w' ⟨he, h⟩
      exact ⟨he, k', X, s, pc, (j : Int), tu + 1, hk, hp, hI', h.r, hnc h.a, hS2.rx, hS2.lm, hS2.wx, hS2.wm, hS2.a.trans (hw h.a) hS2.a.size⟩
  obtain ⟨o1, o2⟩ := hI.one hp h10 h11
  rcases h1 : Em.one C[pc] s with _ | s'
  · left
    intro W b
    have hS2 := hS.under b
    have e := o1 h1
    subst e
    refine (do42_none hS2.r hS2.m hnr hS2.lm hM n1 (hat pc hp W hS2.a) hok.rs h10 h11 hok.n hS2.rx h1).mono fun e w' h => ⟨h.e, rfl, h.r, h.m, hS2.rx, hS2.lm, hS2.wx, hS2.wm, hS2.a.trans h.a hS2.a.size⟩
  · right
    obtain ⟨k', hk, hI'⟩ := o2 s' h1
    intro W b
    have hS2 := hS.under b
    refine (do42_any hS2.r hS2.m hnr hS2.lm hM n1 (hat pc hp W hS2.a) hok.rs h10 h11 hok.n hS2.rx h1 hS2.wx hS2.wm).mono ?_
    rintro e w' ⟨X', q1, q2, q3, q4, q5, h⟩
    exact ⟨h.e, k', X', s', pc, lp, tu, hk, hp, hI', h.r, h.m, q1, by rw [q3]; exact hS2.lm, q4, q5, hS2.a.trans h.a hS2.a.size⟩
end Go.Proofs.YtkgbmgpdehmiiaaDoor
