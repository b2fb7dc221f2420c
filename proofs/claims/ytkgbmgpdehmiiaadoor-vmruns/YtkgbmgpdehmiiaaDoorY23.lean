import Derived.Test.YtkgbmgpdehmiiaaDoorY22
import Derived.WalkKit
import Derived.WalkSpells
import Derived.IntWalk
import Derived.Deep.Cut
import Derived.Deep.LoopGhost
import Derived.Laws.Cover1
import Derived.Lib.Hide
set_option linter.unusedVariables false
set_option linter.unusedSimpArgs false
set_option maxHeartbeats 64000000
set_option maxRecDepth 100000
namespace Go.Proofs.YtkgbmgpdehmiiaaDoor
open Go.RowKit Go.IntWalk
set_option linter.unusedVariables false
set_option linter.unusedSimpArgs false
/-- what an instruction may be -/
structure InOk (nc nr : Nat) (x : Cd.In) : Prop where
  rs : Em.Rs (nc : Int) (nr : Int) x
  n : I64 x.n
end Go.Proofs.YtkgbmgpdehmiiaaDoor
namespace Go.Proofs.YtkgbmgpdehmiiaaDoor
open Go.RowKit Go.IntWalk
set_option linter.unusedVariables false
set_option linter.unusedSimpArgs false
namespace Dx
/-- between two instructions: registers in block rb, cells in block cb -/
structure DAllS (w1 : World) (gb rb cb nc cc nr : Nat) (v0 v1 v2 v3 v4 v5 v6 : Value) (X : List Int) (st : Int) (s : Em.St) (wr : World) : Prop where
  g : GAt wr gb cb nc cc v0 v1 v2 v3 v4 v5 v6 st
  x : LX wr rb X
  m : LX wr cb s.M
  rx : Em.RX s X
  lx : X.length = nr
  lm : nc ≤ s.M.length
  wx : Lo.Wd X
  wm : Lo.Wd s.M
  a : Aside [gb, rb, cb] w1.heap.size w1 wr
/-- which blocks these are -/
structure DBls (gb rb cb nc nr : Nat) (w1 : World) : Prop where
  n1 : gb ≠ rb
  n2 : gb ≠ cb
  n3 : rb ≠ cb
  nc : nc ≤ 6000
  nr : 1 ≤ nr ∧ nr ≤ 40
  hg : gb < w1.heap.size
  hr : rb < w1.heap.size
  hc : cb < w1.heap.size
theorem DAllS.one {w1 : World} {gb rb cb nc cc nr : Nat} {v0 v1 v2 v3 v4 v5 v6 : Value} {X : List Int} {st : Int} {s s' : Em.St} {wr : World} (h : DAllS w1 gb rb cb nc cc nr v0 v1 v2 v3 v4 v5 v6 X st s wr) (hb : DBls gb rb cb nc nr w1) {x : Cd.In} (hR : Em.Rs (nc : Int) (nr : Int) x) (h10 : x.op ≠ 10) (h11 : x.op ≠ 11) (hn : I64 x.n) (h1 : Em.one x s = some s') :
    Calls Tryd.prog 43 #[.pointer (some ⟨gb, 0, none⟩), .agg #[.int .i64 x.op, .int .i64 x.k, .int .i64 x.r, .int .i64 x.a, .int .i64 x.b, .int .i64 x.n], .slice (some ⟨rb, 0, none⟩) nr nr] wr (fun e w' => e = .returned (.bool true) ∧ ∃ X', DAllS w1 gb rb cb nc cc nr v0 v1 v2 v3 v4 v5 v6 X' (wrap64 (st + 1)) s' w') := by
  have hg := h.g
  have hR2 : Em.Rs (nc : Int) (X.length : Int) x := by rw [h.lx]; exact hR
  refine (done62_any hg h.x h.m h.lx.symm h.lm (by rw [h.lx]; exact hb.nr.2) hb.nc hb.n1 hb.n2 hb.n3 hR2 h10 h11 hn h.rx h1 h.wx h.wm).mono ?_
  rintro e w' ⟨X', q1, q2, q3, q4, q5, q6⟩
  exact ⟨q6.e, X', q6.g, q6.x, q6.m, q1, q2.trans h.lx, (by rw [q3]; exact h.lm), q4, q5, h.a.trans q6.a h.a.size⟩
theorem DAllS.stray {w1 : World} {gb rb cb nc cc nr : Nat} {v0 v1 v2 v3 v4 v5 v6 : Value} {X : List Int} {st : Int} {s : Em.St} {wr : World} (h : DAllS w1 gb rb cb nc cc nr v0 v1 v2 v3 v4 v5 v6 X st s wr) (hb : DBls gb rb cb nc nr w1) {x : Cd.In} (hR : Em.Rs (nc : Int) (nr : Int) x) (h10 : x.op ≠ 10) (h11 : x.op ≠ 11) (hn : I64 x.n) (h1 : Em.one x s = none) :
    Calls Tryd.prog 43 #[.pointer (some ⟨gb, 0, none⟩), .agg #[.int .i64 x.op, .int .i64 x.k, .int .i64 x.r, .int .i64 x.a, .int .i64 x.b, .int .i64 x.n], .slice (some ⟨rb, 0, none⟩) nr nr] wr (fun e w' => e = .returned (.bool false) ∧ DAllS w1 gb rb cb nc cc nr v0 v1 v2 v3 v4 v5 v6 X (wrap64 (st + 1)) s w') := by
  have hg := h.g
  have hR2 : Em.Rs (nc : Int) (X.length : Int) x := by rw [h.lx]; exact hR
  refine (done62_none hg h.x h.m h.lx.symm h.lm (by rw [h.lx]; exact hb.nr.2) hb.nc hb.n1 hb.n2 hb.n3 hR2 h10 h11 hn h.rx h1).mono ?_
  intro e w' q
  exact ⟨q.e, q.g, q.x, q.m, h.rx, h.lx, h.lm, h.wx, h.wm, h.a.trans q.a h.a.size⟩
/-- one more instruction is counted -/
theorem DAllS.count {w1 : World} {gb rb cb nc cc nr : Nat} {v0 v1 v2 v3 v4 v5 v6 : Value} {X : List Int} {st : Int} {s : Em.St} {wr : World} (h : DAllS w1 gb rb cb nc cc nr v0 v1 v2 v3 v4 v5 v6 X st s wr) (hb : DBls gb rb cb nc nr w1) (u : Int) : DAllS w1 gb rb cb nc cc nr v0 v1 v2 v3 v4 v5 v6 X u s (wr.setCell ⟨gb, 8, none⟩ (.int .i64 u)) := by
  have hg := h.g
  have hq : Aside [gb, rb, cb] w1.heap.size wr (wr.setCell ⟨gb, 8, none⟩ (.int .i64 u)) := Aside.setCell (by simp) _
  refine ⟨?_, h.x.keep (heap_set_other wr ⟨gb, 8, none⟩ _ (by show gb ≠ rb; exact hb.n1)), h.m.keep (heap_set_other wr ⟨gb, 8, none⟩ _ (by show gb ≠ cb; exact hb.n2)), h.rx, h.lx, h.lm, h.wx, h.wm, h.a.trans hq (Nat.le_refl _)⟩
  have := set_in (show wr.heap[gb]? = some (.cells #[v0, v1, v2, v3, v4, v5, v6, .slice (some ⟨cb, 0, none⟩) nc cc, .int .i64 st] 46 (0, 0)) from hg) 8 (.int .i64 u)
  simpa [GAt] using this
/-- a register is another number -/
theorem DAllS.turn {w1 : World} {gb rb cb nc cc nr : Nat} {v0 v1 v2 v3 v4 v5 v6 : Value} {X : List Int} {st : Int} {s : Em.St} {wr : World} (h : DAllS w1 gb rb cb nc cc nr v0 v1 v2 v3 v4 v5 v6 X st s wr) (hb : DBls gb rb cb nc nr w1) {r : Nat} {v : Int} (hv : I64 v) : DAllS w1 gb rb cb nc cc nr v0 v1 v2 v3 v4 v5 v6 (X.set r v) st ⟨Em.upd s.R (r : Int) v, s.M⟩ (wr.setCell ⟨rb, r, none⟩ (.int .i64 v)) := by
  have hg := h.g
  have hq : Aside [gb, rb, cb] w1.heap.size wr (wr.setCell ⟨rb, r, none⟩ (.int .i64 v)) := Aside.setCell (by simp) _
  exact ⟨hg.keep (heap_set_other wr ⟨rb, r, none⟩ _ (by show rb ≠ gb; exact hb.n1.symm)), h.x.put r v, h.m.keep (heap_set_other wr ⟨rb, r, none⟩ _ (by show rb ≠ cb; exact hb.n3)), Em.RX.upd (f := s.R) (M := s.M) h.rx r v, by rw [List.length_set]; exact h.lx, h.lm, h.wx.set hv _, h.wm, h.a.trans hq (Nat.le_refl _)⟩
end Dx
end Go.Proofs.YtkgbmgpdehmiiaaDoor
namespace Go.Proofs.YtkgbmgpdehmiiaaDoor
open Go.RowKit Go.IntWalk
set_option linter.unusedVariables false
set_option linter.unusedSimpArgs false
namespace Em
open Lo Cd
/-- where code that is run stands at its end: cells and registers, how many were done, the instruction that went astray, or -1 -/
structure Res where
  s : St
  st : Int
  p : Int
/-- instructions, no loop's, the first of which is instruction i -/
def runF : List In → Nat → St → Int → Res
  | [], _, s, st => ⟨s, st, -1⟩
  | x :: l, i, s, st => match one x s with
    | none => ⟨s, wrap64 (st + 1), (i : Int)⟩
    | some s' => runF l (i + 1) s' (wrap64 (st + 1))
/-- a loop's turns -/
def loopF (r : Int) (b : List In) (i : Nat) : Nat → Int → St → Int → Res
  | 0, _, s, st => ⟨s, st, -1⟩
  | n + 1, k, s, st => if (runF b i ⟨upd s.R r k, s.M⟩ st).p < 0 then loopF r b i n (k + 1) (runF b i ⟨upd s.R r k, s.M⟩ st).s (wrap64 ((runF b i ⟨upd s.R r k, s.M⟩ st).st + 1)) else runF b i ⟨upd s.R r k, s.M⟩ st
/-- all of the code -/
def allF : List In → Nat → St → Int → Res
  | [], _, s, st => ⟨s, st, -1⟩
  | x :: l, i, s, st => if x.op = 10 then (if (loopF x.r (cutEnd l).1 (i + 1) x.n.toNat 0 s (wrap64 (st + 1))).p < 0 then allF (cutEnd l).2 (i + (cutEnd l).1.length + 2) (loopF x.r (cutEnd l).1 (i + 1) x.n.toNat 0 s (wrap64 (st + 1))).s (loopF x.r (cutEnd l).1 (i + 1) x.n.toNat 0 s (wrap64 (st + 1))).st else loopF x.r (cutEnd l).1 (i + 1) x.n.toNat 0 s (wrap64 (st + 1)))
    else match one x s with
      | none => ⟨s, wrap64 (st + 1), (i : Int)⟩
      | some s' => allF l (i + 1) s' (wrap64 (st + 1))
termination_by l => l.length
decreasing_by
  · have := cutEnd_len l
    simp
    omega
  · simp
theorem allF_nil (i : Nat) (s : St) (st : Int) : allF [] i s st = ⟨s, st, -1⟩ := by rw [allF]
theorem allF_loop {x e : In} {b l : List In} {i : Nat} {s : St} {st : Int} (h10 : x.op = 10) (hb : plain b) (he : e.op = 11) : allF (x :: (b ++ e :: l)) i s st = (if (loopF x.r b (i + 1) x.n.toNat 0 s (wrap64 (st + 1))).p < 0 then allF l (i + b.length + 2) (loopF x.r b (i + 1) x.n.toNat 0 s (wrap64 (st + 1))).s (loopF x.r b (i + 1) x.n.toNat 0 s (wrap64 (st + 1))).st else loopF x.r b (i + 1) x.n.toNat 0 s (wrap64 (st + 1))) := by
  rw [allF, if_pos h10, cutEnd_at hb he]
theorem allF_none {x : In} {l : List In} {i : Nat} {s : St} {st : Int} (h10 : x.op ≠ 10) (h : one x s = none) : allF (x :: l) i s st = ⟨s, wrap64 (st + 1), (i : Int)⟩ := by
  rw [allF, if_neg h10, h]
theorem allF_some {x : In} {l : List In} {i : Nat} {s s' : St} {st : Int} (h10 : x.op ≠ 10) (h : one x s = some s') : allF (x :: l) i s st = allF l (i + 1) s' (wrap64 (st + 1)) := by
  rw [allF, if_neg h10, h]
theorem runF_none {x : In} {l : List In} {i : Nat} {s : St} {st : Int} (h : one x s = none) : runF (x :: l) i s st = ⟨s, wrap64 (st + 1), (i : Int)⟩ := by
  rw [runF, h]
theorem runF_some {x : In} {l : List In} {i : Nat} {s s' : St} {st : Int} (h : one x s = some s') : runF (x :: l) i s st = runF l (i + 1) s' (wrap64 (st + 1)) := by
  rw [runF, h]
end Em
theorem ins_at {okL : Nat → Prop} {w1 wr : World} {gb rb cb : Nat} {aL : Option Addr} {cL : Nat} {C : List Cd.In} (hL : HIns okL w1 (.slice aL C.length cL) C) (hok : ∀ i, okL i → i ≠ gb ∧ i ≠ rb ∧ i ≠ cb) (a : Aside [gb, rb, cb] w1.heap.size w1 wr) {i : Nat} (hi : i < C.length) : ∃ b o, aL = some ⟨b, o, none⟩ ∧ InAt wr b (o + i * 6) C[i] := by
  have h := hL.keep a.size (fun j hj hl => a.block j hl (by have := hok j hj; simp; exact this))
  obtain ⟨ao, cap, e, -, -, hat⟩ := h.at
  injection e with e1 e2 e3
  obtain ⟨b, o, h1, h2, h3⟩ := hat i hi
  exact ⟨b, o, by rw [e1]; exact h1, h3⟩
theorem drop_at {C b l : List Cd.In} {e : Cd.In} {i : Nat} (h : C.drop (i + 1) = b ++ e :: l) : i + 1 + b.length < C.length ∧ (∀ (j : Nat) (hj : j < b.length) (hh : i + 1 + j < C.length), C[i + 1 + j] = b[j]) ∧ (∀ (hh : i + 1 + b.length < C.length), C[i + 1 + b.length] = e) ∧ C.drop (i + 1 + b.length + 1) = l := by
  have hl := congrArg List.length h
  rw [List.length_drop, List.length_append, List.length_cons] at hl
  refine ⟨by omega, fun j hj hh => ?_, fun hh => ?_, ?_⟩
  · have h1 : (C.drop (i + 1))[j]? = (b ++ e :: l)[j]? := by rw [h]
    rw [List.getElem?_drop, List.getElem?_eq_getElem hh, List.getElem?_append_left hj, List.getElem?_eq_getElem hj] at h1
    exact Option.some.inj h1
  · have h1 : (C.drop (i + 1))[b.length]? = (b ++ e :: l)[b.length]? := by rw [h]
    rw [List.getElem?_drop, List.getElem?_eq_getElem hh, List.getElem?_append_right (Nat.le_refl _), Nat.sub_self] at h1
    exact Option.some.inj h1
  · rw [Nat.add_assoc, ← List.drop_drop, h]
    simp
end Go.Proofs.YtkgbmgpdehmiiaaDoor
