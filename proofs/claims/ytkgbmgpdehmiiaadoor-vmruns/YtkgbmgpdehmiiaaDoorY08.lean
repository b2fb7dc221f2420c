import Derived.Test.YtkgbmgpdehmiiaaDoorY07
import Derived.Deep.Cut
import Derived.Deep.LoopGhost
import Derived.Ground.NamesProg
import Derived.IntWalk
import Derived.Laws.Cover1
import Derived.Laws.EntriesVeiled
import Derived.Laws.Externs
import Derived.Lib.Hide
import Derived.Lib.MakeNoZero
import Derived.Shelf.Lay
import Derived.WalkKit
import Derived.WalkSpells
import Derived.Maps.OwnSet
set_option linter.unusedVariables false
set_option linter.unusedSimpArgs false
set_option maxHeartbeats 64000000
set_option maxRecDepth 100000
namespace Go.Proofs.YtkgbmgpdehmiiaaDoor
open Go.RowKit Go.IntWalk
set_option linter.unusedVariables false
set_option linter.unusedSimpArgs false
namespace Em
open Lo Cd
/-- registers and cells -/
structure St where
  R : Int → Int
  M : List Int
def upd (f : Int → Int) (x v : Int) : Int → Int := fun y => if y = x then v else f y
theorem upd_at (f : Int → Int) (x v : Int) : upd f x v x = v := by simp [upd]
theorem upd_ne (f : Int → Int) {x y : Int} (v : Int) (h : y ≠ x) : upd f x v y = f y := by simp [upd, h]
/-- an instruction, no loop's; none: it cannot be done -/
def one (x : In) (s : St) : Option St :=
  if x.op = 1 then some ⟨upd s.R x.r x.n, s.M⟩
  else if x.op = 2 then some ⟨upd s.R x.r (rd s.M x.n), s.M⟩
  else if x.op = 4 then some ⟨s.R, s.M.set x.n.toNat (s.R x.r)⟩
  else if x.op = 3 then (if s.R x.a < 0 ∨ x.b ≤ s.R x.a then none else some ⟨upd s.R x.r (rd s.M (x.n + s.R x.a)), s.M⟩)
  else if x.op = 5 then (if s.R x.a < 0 ∨ x.b ≤ s.R x.a then none else some ⟨s.R, s.M.set (x.n + s.R x.a).toNat (s.R x.r)⟩)
  else if x.op = 6 then some ⟨upd s.R x.r (apT x.k (s.R x.a) 0), s.M⟩
  else if x.op = 7 then some ⟨upd s.R x.r (apT x.k (s.R x.a) (s.R x.b)), s.M⟩
  else if x.op = 8 then some ⟨upd s.R x.r (if s.R x.r = 0 then s.R x.b else s.R x.a), s.M⟩
  else if x.op = 9 then some ⟨upd s.R x.r (s.R x.a), s.M⟩
  else some s
/-- the code of a step of a tree, r being the stack's next free register, t how many turns the loop has (0: none) -/
def ep (p : Pu) (r t : Int) : List In :=
  if p.op = 1 then [⟨1, 0, r, 0, 0, p.n⟩]
  else if p.op = 2 then [⟨2, 0, r, 0, 0, p.v⟩]
  else if p.op = 3 then (if t = 0 then [⟨2, 0, r, 0, 0, p.v⟩] else [⟨3, 0, r, 0, t, p.v⟩])
  else if p.op = 4 then (if 0 < t then [⟨1, 0, r, 0, 0, p.n⟩, ⟨7, 1, r, r, 0, 0⟩] else [⟨1, 0, r, 0, 0, p.n⟩])
  else if p.op = 5 then [⟨6, p.k, r - 1, r - 1, 0, 0⟩]
  else if p.op = 6 then [⟨7, p.k, r - 2, r - 2, r - 1, 0⟩]
  else if p.op = 7 then [⟨8, 0, r - 3, r - 2, r - 1, 0⟩]
  else if p.op = 8 then [⟨1, 0, r, 0, 0, 0⟩, ⟨7, 8, r + 1, r - 2, r, 0⟩, ⟨6, 14, r + 1, r + 1, 0, 0⟩, ⟨1, 0, r + 2, 0, 0, p.n⟩, ⟨7, 8, r + 2, r - 2, r + 2, 0⟩, ⟨7, 10, r + 1, r + 1, r + 2, 0⟩, ⟨9, 0, r + 2, r + 1, 0, 0⟩, ⟨8, 0, r + 2, r - 2, r, 0⟩, ⟨3, 0, r + 2, r + 2, p.n, p.v⟩, ⟨8, 0, r + 1, r + 2, r - 1, 0⟩, ⟨9, 0, r - 2, r + 1, 0, 0⟩]
  else []
/-- where the stack's next free register is behind it -/
def er (p : Pu) (r : Int) : Int := r - tk p.op + 1
def et : List Pu → Int → Int → List In
  | [], _, _ => []
  | p :: l, r, t => ep p r t ++ et l (er p r) t
theorem small64 {x : Int} (h : -1000000000000000000 ≤ x ∧ x ≤ 1000000000000000000) : wrap64 x = x := by
  unfold wrap64
  omega
def plain (l : List In) : Prop := ∀ x ∈ l, x.op ≠ 10 ∧ x.op ≠ 11
/-- up to the first IEnd, and what comes behind it -/
def cutEnd : List In → List In × List In
  | [] => ([], [])
  | x :: l => if x.op = 11 then ([], l) else (x :: (cutEnd l).1, (cutEnd l).2)
theorem cutEnd_len : ∀ l : List In, (cutEnd l).2.length ≤ l.length
  | [] => by simp [cutEnd]
  | x :: l => by
    unfold cutEnd
    split
    · simp
    · have := cutEnd_len l
      simp
      omega
theorem cutEnd_at : ∀ {b : List In} {e : In} {l : List In}, plain b → e.op = 11 → cutEnd (b ++ e :: l) = (b, l)
  | [], e, l, _, he => by simp [cutEnd, he]
  | x :: b, e, l, hb, he => by
    have hx := (hb x (by simp)).2
    rw [List.cons_append, cutEnd, if_neg hx, cutEnd_at (fun y hy => hb y (by simp [hy])) he]
end Em
end Go.Proofs.YtkgbmgpdehmiiaaDoor
namespace Go.Proofs.YtkgbmgpdehmiiaaDoor
open Go.RowKit Go.IntWalk
set_option linter.unusedVariables false
set_option linter.unusedSimpArgs false
namespace Em
open Lo Cd
/-- at each step the stack's registers are there -/
structure Rs (c R : Int) (i : In) : Prop where
  ok : Cd.bars c R i = false
  b : I64 i.b
theorem has_of {c v n : Int} (h : hasN c v n = true) : Cd.has c v n = true := h
theorem lk_no {R x : Int} (h0 : 0 ≤ x) (h1 : x < R) : Cd.lk R x = false := by
  unfold Cd.lk
  rw [decide_eq_false (by omega), decide_eq_false (by omega)]
  rfl
theorem lacks1 {R x : Int} (hx : 0 ≤ x ∧ x < R) : Cd.lacks R [x] = false := by
  simp only [Cd.lacks, List.any_cons, List.any_nil, lk_no hx.1 hx.2, Bool.or_false]
theorem lacks3 {R x y z : Int} (hx : 0 ≤ x ∧ x < R) (hy : 0 ≤ y ∧ y < R) (hz : 0 ≤ z ∧ z < R) : Cd.lacks R [x, y, z] = false := by
  simp only [Cd.lacks, List.any_cons, List.any_nil, lk_no hx.1 hx.2, lk_no hy.1 hy.2, lk_no hz.1 hz.2, Bool.or_false]
theorem i64_0 : I64 0 := by unfold I64; omega
theorem b1 {c R r n : Int} (hr : 0 ≤ r ∧ r < R) : Rs c R ⟨1, 0, r, 0, 0, n⟩ := ⟨by simp [Cd.bars, lacks1 hr], i64_0⟩
theorem b4 {c R r n : Int} (hr : 0 ≤ r ∧ r < R) (hn : hasN c n 1 = true) : Rs c R ⟨4, 0, r, 0, 0, n⟩ := ⟨by simp [Cd.bars, lacks1 hr, has_of hn], i64_0⟩
theorem b8 {c R r a b : Int} (hR : R ≤ 40) (hr : 0 ≤ r ∧ r < R) (ha : 0 ≤ a ∧ a < R) (hb : 0 ≤ b ∧ b < R) : Rs c R ⟨8, 0, r, a, b, 0⟩ := ⟨by simp [Cd.bars, lacks3 hr ha hb], by show I64 b; unfold I64; omega⟩
theorem k8 : (Kd.opT 8).2.2 = 2 := by decide +kernel
theorem k14 : (Kd.opT 14).2.2 = 1 := by decide +kernel
theorem plain_of {l : List In} (h : plain l) : Cd.plain 10 11 l := h
end Em
end Go.Proofs.YtkgbmgpdehmiiaaDoor
namespace Go.Proofs.YtkgbmgpdehmiiaaDoor
open Go.RowKit Go.IntWalk
set_option linter.unusedVariables false
set_option linter.unusedSimpArgs false
theorem Tryd.infoLL : (Tryd.prog.info? 40).map (fun i => (i.zero, i.size, i.bytes)) = some (some (.slice none 0 0), 1, 24) := by kernel_rfl
/-- rows of long numbers in a row: the cells of variables -/
def kLL : Kind (List Int) where
  ty := 40
  k := 1
  bytes := 24
  zero := .slice none 0 0
  E := fun ok w cs l => ∃ u, cs = [u] ∧ HInts ok w u l
  pos := by decide
  zs := rfl
  info := Tryd.infoLL
  len := by rintro _ _ _ _ ⟨u, rfl, _⟩; rfl
  one := by
    rintro _ _ _ _ ⟨u, rfl, h⟩ v hv
    simp at hv
    subst hv
    obtain ⟨ao, cap, rfl, _⟩ := h.at
    rfl
  keep := by rintro _ _ _ _ _ ⟨u, rfl, h⟩ hs hk; exact ⟨u, rfl, h.keep hs hk⟩
  wide := by rintro _ _ _ _ _ ⟨u, rfl, h⟩ hk; exact ⟨u, rfl, h.wide hk⟩
theorem HRow.llAt {ok : Nat → Prop} {w : World} {v : Value} {l : List (List Int)} (h : HRow kLL ok w v l) :
    ∃ ao cap, v = .slice ao l.length cap ∧ l.length ≤ cap ∧ cap ≤ maxLen ∧ ∀ i (h : i < l.length), ∃ b o u, ao = some ⟨b, o, none⟩ ∧ b < w.heap.size ∧ w.cell? ⟨b, o + i, none⟩ = some u ∧ HInts ok w u l[i] := by
  obtain ⟨C, ⟨ao, cap, hv, h1, h2, h3⟩, hC⟩ := h
  refine ⟨ao, cap, hv, h1, h2, fun i hi => ?_⟩
  obtain ⟨b, o, ha, hob, hb, hc⟩ := h3 (by omega)
  obtain ⟨u, e, hu⟩ := hC i hi
  have := (hc i hi).2 0 (by decide)
  rw [e] at this
  exact ⟨b, o, u, ha, hb, by simpa [kLL] using this, hu⟩
end Go.Proofs.YtkgbmgpdehmiiaaDoor
namespace Go.Proofs.YtkgbmgpdehmiiaaDoor
open Go.RowKit Go.IntWalk
set_option linter.unusedVariables false
set_option linter.unusedSimpArgs false
set_option maxHeartbeats 16000000 in
theorem sameLongs_same {ok ok' : Nat → Prop} {w : World} {u v : Value} {l : List Int} (hu : HInts ok w u l) (hv : HInts ok' w v l) :
    Calls Tryd.prog 15 #[u, v] w fun e w' => e = .returned (.bool true) ∧ Below w.heap.size w w' := by
  obtain ⟨aU, cU, rfl, hu1, hu2, -⟩ := hu.at
  obtain ⟨aV, cV, rfl, hv1, hv2, -⟩ := hv.at
  unfold maxLen at hu2 hv2
  have HU := hide hu
  have HV := hide hv
  obtain ⟨n, hn⟩ : ∃ n, n = l.length := ⟨_, rfl⟩
  rw [← hn] at hu1 hv1 ⊢
  have HN := hide hn
  clear hu hv hn
  go_enter Tryd.func15, Tryd.ntmps15
  go_wp2_with fail
  go_loopg [5] n (fun k v wr => ∃ (i : Nat), i ≤ n ∧ k = n - i ∧ v = .int .i64 (i : Nat) ∧ Below w.heap.size w wr)
  case atStart => exact ⟨0, Nat.zero_le _, rfl, rfl, Below.refl _ _⟩
  case round =>
    obtain ⟨i, hi, rfl, rfl, hbr⟩ := hrel
    have zr := hbr.size
    by_cases hlt : i < n
    case neg =>
      have hin : i = n := by omega
      subst hin
      go_wp2
      go_ret
      exact ⟨rfl, hbr⟩
    case pos =>
      have hil : i < l.length := by have := HN.out; omega
      obtain ⟨ao, cp, e1, -, -, hat⟩ := (HU.out.under hbr).at
      injection e1 with q1 q2 q3
      obtain ⟨b1, o1, hb1, y1, x1⟩ := hat i hil
      rw [hb1] at q1
      subst q1
      obtain ⟨ao2, cp2, e2, -, -, hat2⟩ := (HV.out.under hbr).at
      injection e2 with z1 z2 z3
      obtain ⟨b2, o2, hb2, y2, x2⟩ := hat2 i hil
      rw [hb2] at z1
      subst z1
      generalize l[i] = y at x1 x2
      clear hat hat2 q2 q3 z2 z3 hb1 hb2 hil
      go_upto_region 6 with fail
      refine wp_region_late (fun w' => Below wr.heap.size wr w') (fun _ => false) (by kernel_rfl) ?_
      have hH0 : Below wr.heap.size wr wr.drew := (Below.refl _ _).drew
      generalize wr.drew = wd0 at hH0 ⊢
      refine' wpAnyL_take (i := 0) (oi := ⟨some 17, _, _, _, _, _⟩) (v := _) rfl (by kernel_rfl) (by kernel_rfl) (by kernel_rfl) (by kernel_rfl) (fun _ _ _ h => h) hH0 (by rfl) ?hyv ?o1
      case hyv =>
        intro wz hSw
        go_simp
        try rfl
      try simp only [Act.put, sT, sZ, sS]
      refine' wpAnyL_take (i := 1) (oi := ⟨some 18, _, _, _, _, _⟩) (v := _) rfl (by kernel_rfl) (by kernel_rfl) (by kernel_rfl) (by kernel_rfl) (fun _ _ _ h => h) hH0 (by rfl) ?hyv ?o2
      case hyv =>
        intro wz hSw
        go_simp
        try rfl
      try simp only [Act.put, sT, sZ, sS]
      refine' wpAnyL_take (i := 2) (oi := ⟨some 19, _, _, _, _, _⟩) (v := _) rfl (by kernel_rfl) (by kernel_rfl) (by kernel_rfl) (by kernel_rfl) (fun _ _ _ h => h) hH0 (by rfl) ?hyv ?o3
      case hyv =>
        intro wz hSw
        go_simp
        try rfl
      try simp only [Act.put, sT, sZ, sS]
      refine' wpAnyL_take (i := 3) (oi := ⟨some 20, _, _, _, _, _⟩) (v := _) rfl (by kernel_rfl) (by kernel_rfl) (by kernel_rfl) (by kernel_rfl) (fun _ _ _ h => h) hH0 (by rfl) ?hyv ?o4
      case hyv =>
        intro wz hSw
        have zc0 := (hSw.cell (p := ⟨b1, o1 + i, none⟩) y1).trans x1
        have zc1 := (hSw.cell (p := ⟨b2, o2 + i, none⟩) y2).trans x2
        go_simp
        try rfl
      try simp only [Act.put, sT, sZ, sS]
      refine' wpAnyL_take (i := 4) (oi := ⟨some 21, _, _, _, _, _⟩) (v := _) rfl (by kernel_rfl) (by kernel_rfl) (by kernel_rfl) (by kernel_rfl) (fun _ _ _ h => h) hH0 (by rfl) ?hyv ?o5
      case hyv =>
        intro wz hSw
        go_simp
        try rfl
      try simp only [Act.put, sT, sZ, sS]
      refine' wpAnyL_take (i := 5) (oi := ⟨some 22, _, _, _, _, _⟩) (v := _) rfl (by kernel_rfl) (by kernel_rfl) (by kernel_rfl) (by kernel_rfl) (fun _ _ _ h => h) hH0 (by rfl) ?hyv ?o6
      case hyv =>
        intro wz hSw
        go_simp
        try rfl
      try simp only [Act.put, sT, sZ, sS]
      refine' wpAnyL_take (i := 6) (oi := ⟨some 23, _, _, _, _, _⟩) (v := _) rfl (by kernel_rfl) (by kernel_rfl) (by kernel_rfl) (by kernel_rfl) (fun _ _ _ h => h) hH0 (by rfl) ?hyv ?o7
      case hyv =>
        intro wz hSw
        go_simp
        try rfl
      try simp only [Act.put, sT, sZ, sS]
      refine' wpAnyL_take (i := 7) (oi := ⟨some 24, _, _, _, _, _⟩) (v := _) rfl (by kernel_rfl) (by kernel_rfl) (by kernel_rfl) (by kernel_rfl) (fun _ _ _ h => h) hH0 (by rfl) ?hyv ?o8
      case hyv =>
        intro wz hSw
        have zc0 := (hSw.cell (p := ⟨b1, o1 + i, none⟩) y1).trans x1
        have zc1 := (hSw.cell (p := ⟨b2, o2 + i, none⟩) y2).trans x2
        go_simp
        try rfl
      try simp only [Act.put, sT, sZ, sS]
      refine' wpAnyL_take (i := 8) (oi := ⟨some 25, _, _, _, _, _⟩) (v := _) rfl (by kernel_rfl) (by kernel_rfl) (by kernel_rfl) (by kernel_rfl) (fun _ _ _ h => h) hH0 (by rfl) ?hyv ?o9
      case hyv =>
        intro wz hSw
        go_simp
        try rfl
      try simp only [Act.put, sT, sZ, sS]
      refine wpAnyL_done (by kernel_rfl) ?_ _
      clear x1 x2
      have BE := hbr.trans (hH0.mono hbr.size)
      go_wp2_with fail
      go_roundg (n - (i + 1))
      case measure => omega
      case rel => exact ⟨i + 1, by omega, rfl, by go_num, BE⟩
end Go.Proofs.YtkgbmgpdehmiiaaDoor
namespace Go.Proofs.YtkgbmgpdehmiiaaDoor
open Go.RowKit Go.IntWalk
set_option linter.unusedVariables false
set_option linter.unusedSimpArgs false
theorem ownX_of {α : Type} {T : Kind α} {B : Nat} {w : World} {v : Value} {l : List α} (h : OwnL T B w v l) : OwnX T (fun i => B ≤ i ∧ i < w.heap.size) w v l := by
  have hlt := h.lt
  obtain ⟨D, ⟨h1, h2⟩, h3⟩ := h
  refine ⟨D, ⟨h1, ?_⟩, fun k hk => hlt k hk, fun j hj => T.wide (h3 j hj) fun i hi hl => ⟨⟨hi.1, hl⟩, hi.2⟩⟩
  rcases h2 with h | ⟨g, cap, cur, e1, e2, e3⟩
  · exact .inl h
  · exact .inr ⟨g, cap, cur, e1, Nat.zero_le _, e3⟩
theorem ownL_of {α : Type} {T : Kind α} {ok : Nat → Prop} {B : Nat} {w : World} {v : Value} {l : List α} (h : OwnX T ok w v l) (hk : ∀ i, ok i → B ≤ i) : OwnL T B w v l := by
  obtain ⟨D, ⟨h1, h2⟩, h3, h4⟩ := h
  refine ⟨D, ⟨h1, ?_⟩, fun j hj => T.wide (h4 j hj) fun i hi _ => ⟨hk i hi.1, hi.2⟩⟩
  rcases h2 with h | ⟨g, cap, cur, e1, e2, e3⟩
  · exact .inl h
  · refine .inr ⟨g, cap, cur, e1, hk g (h3 g ?_), e3⟩
    rw [e1]
    rfl
end Go.Proofs.YtkgbmgpdehmiiaaDoor
namespace Go.Proofs.YtkgbmgpdehmiiaaDoor
open Go.RowKit Go.IntWalk
set_option linter.unusedVariables false
set_option linter.unusedSimpArgs false
theorem flat_appK (C D : Nat → List Value) (n : Nat) : ∀ m, flat (fun q => if q < n then C q else D (q - n)) (n + m) = flat C n ++ flat D m
  | 0 => by
    rw [Nat.add_zero, flat_congr (D := C) n (fun q hq => by rw [if_pos hq])]
    simp [flat]
  | m + 1 => by
    rw [← Nat.add_assoc, flat, flat_appK C D n m, flat, if_neg (by omega), List.append_assoc]
    congr 3
    omega
/-- a whole row behind a row of the call's own -/
theorem run_joinO {α : Type} (T : Kind α) {w : World} (t ty : TypeId) (ht : Tryd.prog.underlying t = some (.slice T.ty)) {ok okr : Nat → Prop} {v u : Value} {l r : List α} (hown : OwnX T ok w v l) (hr : HRow T okr w u r)
    (hap : ∀ k, v.ownBlock = some k → ¬ okr k) (hM : (l.length + r.length) * T.bytes ≤ 140737488355328) (hm : l.length + r.length ≤ maxLen) :
    ∃ v' w', (Builtin.append_ #[t, t] ty #[v, u]).run Tryd.prog w = .ok v' w' ∧ OwnX T (fun k => ok k ∨ okr k ∨ w.heap.size ≤ k) w' v' (l ++ r) ∧ w.grownBy w' v.ownBlock ∧ (v'.ownBlock = v.ownBlock ∨ ∃ k, v'.ownBlock = some k ∧ w.heap.size ≤ k) := by
  obtain ⟨i0, hi, hz0, hz1, hz2⟩ := info_parts T.info
  have hown0 := hown
  obtain ⟨D, hrow, hok, hD⟩ := hown
  obtain ⟨C, hS, hC⟩ := hr
  have hS0 := hS
  obtain ⟨ao, cap, rfl, h2, h3, h4⟩ := hS
  have hCl : ∀ i, i < r.length → (C i).length = T.k := fun i hi => T.len (hC i hi)
  have hDl : ∀ i, i < l.length → (D i).length = T.k := fun i hi => T.len (hD i hi)
  cases ao with
  | none =>
    have hr0 : r = [] := by
      cases r with
      | nil => rfl
      | cons x r =>
        obtain ⟨b, o, e, _⟩ := h4 (by simp)
        cases e
    subst hr0
    have hrun : (Builtin.append_ #[t, t] ty #[v, .slice none 0 cap]).run Tryd.prog w = .ok v w := by
      rcases hrow.2 with ⟨rfl, h0⟩ | ⟨g, c, cur, rfl, _, _, hnc, _⟩
      · simp [Builtin.append_, run_underlying ht, sizeOf, typeInfo, hi, Builtin.lenOf, Builtin.firstCells]
      · simp [Builtin.append_, run_underlying ht, sizeOf, typeInfo, hi, Builtin.lenOf, Builtin.firstCells, hnc, storeCells]
    refine ⟨v, w, hrun, ?_, ⟨rfl, rfl, rfl, Nat.le_refl _, fun _ _ _ => rfl⟩, .inl rfl⟩
    rw [List.append_nil]
    exact hown0.wide (fun i hi _ => .inl hi)
  | some a =>
    have hone : ∀ x ∈ flat C r.length, x.oneCell' = true := fun x hx => by
      obtain ⟨i, hi, hx⟩ := flat_mem _ _ hx
      exact T.one (hC i hi) x hx
    have hnews : ∀ j u, (flat C r.length)[j]? = some u → w.cell? (a.add j) = some u := by
      by_cases h0 : 0 < r.length
      · obtain ⟨b, o, e, hb, hbl, hcells⟩ := h4 h0
        injection e with e
        subst e
        exact Sl.news T.pos hS0
      · intro j u hj
        have e : r.length = 0 := by omega
        rw [e] at hj
        simp [flat] at hj
    obtain ⟨v', w', hrun, hrow', hgrow, hmv⟩ := run_push w 0 t ty T.ty i0 T.zero T.k T.bytes ht hi hz0 hz1 hz2 T.zs T.pos v l.length _ hrow a r.length cap (flat C r.length) (flat_len _ hCl) hnews hone hm hM (Nat.zero_le _)
    have hnv : ∀ i, i < w.heap.size → some i ≠ v.ownBlock → some i ≠ v'.ownBlock := by
      intro i hi hne
      rcases hmv with h | ⟨k, hk, hl⟩
      · rw [h]; exact hne
      · rw [hk]
        intro e
        injection e with e
        omega
    refine ⟨v', w', hrun, ⟨fun q => if q < l.length then D q else C (q - l.length), ?_, fun k hk => ?_, fun j hj => ?_⟩, hgrow, hmv⟩
    · rw [List.length_append, flat_appK]
      exact hrow'
    · rcases hmv with h | ⟨k', hk', hl⟩
      · exact .inl (hok k (h ▸ hk))
      · rw [hk] at hk'
        injection hk' with e
        subst e
        exact .inr (.inr hl)
    · by_cases e : j < l.length
      · simp only [if_pos e, List.getElem_append_left e]
        have g0 := T.wide (ok' := fun k => (ok k ∧ some k ≠ v.ownBlock) ∧ k < w.heap.size) (hD j e) (fun k hk hl => ⟨hk, hl⟩)
        have g1 := T.keep g0 hgrow.size (fun k hk hl => hgrow.block k hl hk.1.2)
        exact T.wide g1 (fun k hk _ => ⟨.inl hk.1.1, hnv k hk.2 hk.1.2⟩)
      · have hj2 : j - l.length < r.length := by simp at hj; omega
        simp only [if_neg e, List.getElem_append_right (Nat.le_of_not_lt e)]
        have g0 := T.wide (ok' := fun k => okr k ∧ k < w.heap.size) (hC _ hj2) (fun k hk hl => ⟨hk, hl⟩)
        have g1 := T.keep g0 hgrow.size (fun k hk hl => hgrow.block k hl (fun e => hap k e.symm hk.1))
        exact T.wide g1 (fun k hk _ => ⟨.inr (.inl hk.1), hnv k hk.2 (fun e => hap k e.symm hk.1)⟩)
/-- append, its run being known -/
theorem wpList_joinO {w w' : World} {ops : Array Oper} {rest : List Oper} {o : Oper} {a : Act} {Q : Exit → Act → World → Prop} (hgd : o.guard = none) (s x : Operand) (t : TypeId) (ho : o.op = .call { callee := .builtin .append, args := #[s, x], argTypes := #[t, t] }) (v u v' : Value) (hs : a.eval s = v) (hx : a.eval x = u)
    (hr : (Builtin.append_ #[t, t] o.type #[v, u]).run Tryd.prog w = .ok v' w') (h : wpList Tryd.prog ops Q rest (a.put o.dst v') w') : wpList Tryd.prog ops Q (o :: rest) a w := by
  refine wpList_plain hgd fun _ hK => ?_
  unfold Oper.wp execOp
  simp only [ho, resolve, invoke, builtin, Sem.run_bind, Sem.run_pure, Result.andThen_ok, List.map_toArray, List.map_cons, List.map_nil, hs, hx, hr]
  exact hK _ _ h
theorem oper_joinO {w w' : World} {o : Oper} {a : Act} {K : Act → World → Prop} {Q : Exit → Act → World → Prop} (s x : Operand) (t : TypeId) (ho : o.op = .call { callee := .builtin .append, args := #[s, x], argTypes := #[t, t] }) (v u v' : Value) (hs : a.eval s = v) (hx : a.eval x = u)
    (hr : (Builtin.append_ #[t, t] o.type #[v, u]).run Tryd.prog w = .ok v' w') (h : K (a.put o.dst v') w') : Oper.wp Tryd.prog o a w K Q := by
  unfold Oper.wp execOp
  simp only [ho, resolve, invoke, builtin, Sem.run_bind, Sem.run_pure, Result.andThen_ok, List.map_toArray, List.map_cons, List.map_nil, hs, hx, hr]
  exact h
end Go.Proofs.YtkgbmgpdehmiiaaDoor
