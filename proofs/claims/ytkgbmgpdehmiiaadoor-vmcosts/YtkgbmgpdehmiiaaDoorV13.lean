import Derived.Test.YtkgbmgpdehmiiaaDoorV12
import Derived.Deep.Cut
import Derived.Deep.LoopGhost
import Derived.Ground.NamesProg
import Derived.IntWalk
import Derived.Laws.Cover1
import Derived.Laws.EntriesVeiled
import Derived.Laws.Externs
import Derived.Lib.Hide
import Derived.Lib.MakeNoZero
import Derived.Shelf.Lay
import Derived.WalkKit
import Derived.WalkSpells
set_option linter.unusedVariables false
set_option linter.unusedSimpArgs false
set_option maxHeartbeats 64000000
set_option maxRecDepth 100000
namespace Go.Proofs.YtkgbmgpdehmiiaaDoor
open Go.RowKit Go.IntWalk
set_option linter.unusedVariables false
set_option linter.unusedSimpArgs false
namespace Em
open Lo Cd
/-- registers and cells -/
structure St where
  R : Int → Int
  M : List Int
def upd (f : Int → Int) (x v : Int) : Int → Int := fun y => if y = x then v else f y
theorem upd_at (f : Int → Int) (x v : Int) : upd f x v x = v := by simp [upd]
theorem upd_ne (f : Int → Int) {x y : Int} (v : Int) (h : y ≠ x) : upd f x v y = f y := by simp [upd, h]
/-- an instruction, no loop's; none: it cannot be done -/
def one (x : In) (s : St) : Option St :=
  if x.op = 1 then some ⟨upd s.R x.r x.n, s.M⟩
  else if x.op = 2 then some ⟨upd s.R x.r (rd s.M x.n), s.M⟩
  else if x.op = 4 then some ⟨s.R, s.M.set x.n.toNat (s.R x.r)⟩
  else if x.op = 3 then (if s.R x.a < 0 ∨ x.b ≤ s.R x.a then none else some ⟨upd s.R x.r (rd s.M (x.n + s.R x.a)), s.M⟩)
  else if x.op = 5 then (if s.R x.a < 0 ∨ x.b ≤ s.R x.a then none else some ⟨s.R, s.M.set (x.n + s.R x.a).toNat (s.R x.r)⟩)
  else if x.op = 6 then some ⟨upd s.R x.r (apT x.k (s.R x.a) 0), s.M⟩
  else if x.op = 7 then some ⟨upd s.R x.r (apT x.k (s.R x.a) (s.R x.b)), s.M⟩
  else if x.op = 8 then some ⟨upd s.R x.r (if s.R x.r = 0 then s.R x.b else s.R x.a), s.M⟩
  else if x.op = 9 then some ⟨upd s.R x.r (s.R x.a), s.M⟩
  else some s
def run : List In → St → Option St
  | [], s => some s
  | x :: l, s => (one x s).bind (run l)
/-- the code of a step of a tree, r being the stack's next free register, t how many turns the loop has (0: none) -/
def ep (p : Pu) (r t : Int) : List In :=
  if p.op = 1 then [⟨1, 0, r, 0, 0, p.n⟩]
  else if p.op = 2 then [⟨2, 0, r, 0, 0, p.v⟩]
  else if p.op = 3 then (if t = 0 then [⟨2, 0, r, 0, 0, p.v⟩] else [⟨3, 0, r, 0, t, p.v⟩])
  else if p.op = 4 then (if 0 < t then [⟨1, 0, r, 0, 0, p.n⟩, ⟨7, 1, r, r, 0, 0⟩] else [⟨1, 0, r, 0, 0, p.n⟩])
  else if p.op = 5 then [⟨6, p.k, r - 1, r - 1, 0, 0⟩]
  else if p.op = 6 then [⟨7, p.k, r - 2, r - 2, r - 1, 0⟩]
  else if p.op = 7 then [⟨8, 0, r - 3, r - 2, r - 1, 0⟩]
  else if p.op = 8 then [⟨1, 0, r, 0, 0, 0⟩, ⟨7, 8, r + 1, r - 2, r, 0⟩, ⟨6, 14, r + 1, r + 1, 0, 0⟩, ⟨1, 0, r + 2, 0, 0, p.n⟩, ⟨7, 8, r + 2, r - 2, r + 2, 0⟩, ⟨7, 10, r + 1, r + 1, r + 2, 0⟩, ⟨9, 0, r + 2, r + 1, 0, 0⟩, ⟨8, 0, r + 2, r - 2, r, 0⟩, ⟨3, 0, r + 2, r + 2, p.n, p.v⟩, ⟨8, 0, r + 1, r + 2, r - 1, 0⟩, ⟨9, 0, r - 2, r + 1, 0, 0⟩]
  else []
/-- where the stack's next free register is behind it -/
def er (p : Pu) (r : Int) : Int := r - tk p.op + 1
def et : List Pu → Int → Int → List In
  | [], _, _ => []
  | p :: l, r, t => ep p r t ++ et l (er p r) t
theorem small64 {x : Int} (h : -1000000000000000000 ≤ x ∧ x ≤ 1000000000000000000) : wrap64 x = x := by
  unfold wrap64
  omega
def plain (l : List In) : Prop := ∀ x ∈ l, x.op ≠ 10 ∧ x.op ≠ 11
/-- up to the first IEnd, and what comes behind it -/
def cutEnd : List In → List In × List In
  | [] => ([], [])
  | x :: l => if x.op = 11 then ([], l) else (x :: (cutEnd l).1, (cutEnd l).2)
theorem cutEnd_len : ∀ l : List In, (cutEnd l).2.length ≤ l.length
  | [] => by simp [cutEnd]
  | x :: l => by
    unfold cutEnd
    split
    · simp
    · have := cutEnd_len l
      simp
      omega
theorem cutEnd_at : ∀ {b : List In} {e : In} {l : List In}, plain b → e.op = 11 → cutEnd (b ++ e :: l) = (b, l)
  | [], e, l, _, he => by simp [cutEnd, he]
  | x :: b, e, l, hb, he => by
    have hx := (hb x (by simp)).2
    rw [List.cons_append, cutEnd, if_neg hx, cutEnd_at (fun y hy => hb y (by simp [hy])) he]
end Em
end Go.Proofs.YtkgbmgpdehmiiaaDoor
namespace Go.Proofs.YtkgbmgpdehmiiaaDoor
open Go.RowKit Go.IntWalk
set_option linter.unusedVariables false
set_option linter.unusedSimpArgs false
namespace Em
open Lo Cd
/-- at each step the stack's registers are there -/
structure Rs (c R : Int) (i : In) : Prop where
  ok : Cd.bars c R i = false
  b : I64 i.b
theorem has_of {c v n : Int} (h : hasN c v n = true) : Cd.has c v n = true := h
theorem lk_no {R x : Int} (h0 : 0 ≤ x) (h1 : x < R) : Cd.lk R x = false := by
  unfold Cd.lk
  rw [decide_eq_false (by omega), decide_eq_false (by omega)]
  rfl
theorem lacks1 {R x : Int} (hx : 0 ≤ x ∧ x < R) : Cd.lacks R [x] = false := by
  simp only [Cd.lacks, List.any_cons, List.any_nil, lk_no hx.1 hx.2, Bool.or_false]
theorem lacks3 {R x y z : Int} (hx : 0 ≤ x ∧ x < R) (hy : 0 ≤ y ∧ y < R) (hz : 0 ≤ z ∧ z < R) : Cd.lacks R [x, y, z] = false := by
  simp only [Cd.lacks, List.any_cons, List.any_nil, lk_no hx.1 hx.2, lk_no hy.1 hy.2, lk_no hz.1 hz.2, Bool.or_false]
theorem i64_0 : I64 0 := by unfold I64; omega
theorem b1 {c R r n : Int} (hr : 0 ≤ r ∧ r < R) : Rs c R ⟨1, 0, r, 0, 0, n⟩ := ⟨by simp [Cd.bars, lacks1 hr], i64_0⟩
theorem b4 {c R r n : Int} (hr : 0 ≤ r ∧ r < R) (hn : hasN c n 1 = true) : Rs c R ⟨4, 0, r, 0, 0, n⟩ := ⟨by simp [Cd.bars, lacks1 hr, has_of hn], i64_0⟩
theorem b8 {c R r a b : Int} (hR : R ≤ 40) (hr : 0 ≤ r ∧ r < R) (ha : 0 ≤ a ∧ a < R) (hb : 0 ≤ b ∧ b < R) : Rs c R ⟨8, 0, r, a, b, 0⟩ := ⟨by simp [Cd.bars, lacks3 hr ha hb], by show I64 b; unfold I64; omega⟩
theorem plain_of {l : List In} (h : plain l) : Cd.plain 10 11 l := h
end Em
end Go.Proofs.YtkgbmgpdehmiiaaDoor
namespace Go.Proofs.YtkgbmgpdehmiiaaDoor
open Go.RowKit Go.IntWalk
set_option linter.unusedVariables false
set_option linter.unusedSimpArgs false
theorem Tryd.infoLL : (Tryd.prog.info? 40).map (fun i => (i.zero, i.size, i.bytes)) = some (some (.slice none 0 0), 1, 24) := by kernel_rfl
/-- rows of long numbers in a row: the cells of variables -/
def kLL : Kind (List Int) where
  ty := 40
  k := 1
  bytes := 24
  zero := .slice none 0 0
  E := fun ok w cs l => ∃ u, cs = [u] ∧ HInts ok w u l
  pos := by decide
  zs := rfl
  info := Tryd.infoLL
  len := by rintro _ _ _ _ ⟨u, rfl, _⟩; rfl
  one := by
    rintro _ _ _ _ ⟨u, rfl, h⟩ v hv
    simp at hv
    subst hv
    obtain ⟨ao, cap, rfl, _⟩ := h.at
    rfl
  keep := by rintro _ _ _ _ _ ⟨u, rfl, h⟩ hs hk; exact ⟨u, rfl, h.keep hs hk⟩
  wide := by rintro _ _ _ _ _ ⟨u, rfl, h⟩ hk; exact ⟨u, rfl, h.wide hk⟩
theorem HRow.llAt {ok : Nat → Prop} {w : World} {v : Value} {l : List (List Int)} (h : HRow kLL ok w v l) :
    ∃ ao cap, v = .slice ao l.length cap ∧ l.length ≤ cap ∧ cap ≤ maxLen ∧ ∀ i (h : i < l.length), ∃ b o u, ao = some ⟨b, o, none⟩ ∧ b < w.heap.size ∧ w.cell? ⟨b, o + i, none⟩ = some u ∧ HInts ok w u l[i] := by
  obtain ⟨C, ⟨ao, cap, hv, h1, h2, h3⟩, hC⟩ := h
  refine ⟨ao, cap, hv, h1, h2, fun i hi => ?_⟩
  obtain ⟨b, o, ha, hob, hb, hc⟩ := h3 (by omega)
  obtain ⟨u, e, hu⟩ := hC i hi
  have := (hc i hi).2 0 (by decide)
  rw [e] at this
  exact ⟨b, o, u, ha, hb, by simpa [kLL] using this, hu⟩
end Go.Proofs.YtkgbmgpdehmiiaaDoor
