import Derived.Test.YtkgbmgpdehmiiaaDoorY11
import Derived.WalkKit
import Derived.WalkSpells
import Derived.IntWalk
import Derived.Deep.Cut
import Derived.Deep.LoopGhost
import Derived.Laws.Cover1
import Derived.Lib.Hide
import Derived.Test.YtkgbmgpdehmiiaaDoorRows
import Derived.FnData
import Derived.LaidSub
import Derived.Lib.LaidTab
import Derived.Ground.NamesProg
set_option linter.unusedVariables false
set_option linter.unusedSimpArgs false
set_option maxHeartbeats 64000000
set_option maxRecDepth 100000
namespace Go.Proofs.YtkgbmgpdehmiiaaDoor
open Go.RowKit Go.IntWalk Go.Deep
set_option linter.unusedVariables false
set_option linter.unusedSimpArgs false
namespace Ld
variable {H : Type} {enc : TypeId × Value → H} {P : Program} {w : World} {base : Nat} {sp : Nat → Bool} {held : Bool}
def fieldsOf (P : Program) (t : TypeId) : Option (List (TypeId × Nat)) :=
  match P.underlying t with
  | some (.struct fs) => some (fs.toList.map fun f => (f.type, f.offset))
  | _ => none
theorem trod_field {fuel : Nat} {t : TypeId} {cs : List Value} {L : List (TypeId × Nat)} {d : DataW H} {p : List MemPlace} (hF : fieldsOf P t = some L)
    (h : DataW.trod enc P w base sp held fuel t cs = some (d, p)) {j : Nat} {u : TypeId} {off : Nat} (hj : L[j]? = some (u, off)) :
    ∃ ds fuel' d' p', d = .agg ds ∧ ds[j]? = some d' ∧ DataW.trod enc P w base sp held fuel' u ((cs.drop off).take (P.cellsOf u)) = some (d', p') := by
  unfold fieldsOf at hF
  split at hF
  · rename_i fs hu
    obtain rfl := Option.some.inj hF
    cases fuel with
    | zero => simp [DataW.trod] at h
    | succ fuel =>
      simp only [DataW.trod, hu] at h
      split at h
      · obtain ⟨xs, hm, hx⟩ := Option.map_eq_some_iff.1 h
        simp only [List.getElem?_map, Option.map_eq_some_iff] at hj
        obtain ⟨f, hf, hfe⟩ := hj
        obtain ⟨b, hb, hb2⟩ := Lib.mapM_at hm j f hf
        injection hfe with e1 e2
        subst e1 e2
        refine ⟨xs.map (·.1), fuel, b.1, b.2, ?_, by simp [hb], hb2⟩
        exact (congrArg Prod.fst hx).symm
      · cases h
  · cases hF
theorem trod_elem {fuel : Nat} {t e : TypeId} {n : Nat} {cs : List Value} {ds : List (DataW H)} {p : List MemPlace} (ht : P.underlying t = some (.array n e))
    (h : DataW.trod enc P w base sp held fuel t cs = some (.agg ds, p)) {i : Nat} (hi : i < n) :
    ∃ fuel' d' p', ds[i]? = some d' ∧ DataW.trod enc P w base sp held fuel' e ((cs.drop (i * P.cellsOf e)).take (P.cellsOf e)) = some (d', p') := by
  cases fuel with
  | zero => simp [DataW.trod] at h
  | succ fuel =>
    simp only [DataW.trod, ht] at h
    split at h
    · obtain ⟨xs, hm, hx⟩ := Option.map_eq_some_iff.1 h
      obtain ⟨b, hb, hb2⟩ := Lib.mapM_at hm i i (by simp [hi])
      refine ⟨fuel, b.1, b.2, ?_, hb2⟩
      have := congrArg Prod.fst hx
      simp only [DataW.agg.injEq] at this
      rw [← this]
      simp [hb]
    · cases h
theorem row_int {fuel : Nat} {t e u : TypeId} {n c off i j : Nat} {k : IntKind} {cs : List Value} {ds : List (DataW H)} {p : List MemPlace} {L : List (TypeId × Nat)} (ht : P.underlying t = some (.array n e)) (hc : P.cellsOf e = c) (hF : fieldsOf P e = some L)
    (h : DataW.trod enc P w base sp held fuel t cs = some (.agg ds, p)) (hi : i < n) (hj : L[j]? = some (u, off)) (hu : P.underlying u = some (.int k)) (hcu : P.cellsOf u = 1) (ho : off < c)
    {es : List (DataW H)} {z : Int} (hd : ds[i]? = some (.agg es)) (he : es[j]? = some (.lit (.int k z))) : cs[i * c + off]? = some (.int k z) := by
  obtain ⟨f1, d1, p1, h1, h2⟩ := trod_elem ht h hi
  obtain ⟨ds2, f2, d2, p2, rfl, h3, h4⟩ := trod_field hF h2 hj
  obtain ⟨s, h5, h6, _⟩ := DataW.trod_int hu h4
  rw [hd] at h1
  simp only [Option.some.injEq, DataW.agg.injEq] at h1
  subst h1
  rw [he] at h3
  have h7 : d2 = .lit (.int k s) := congrArg Prod.fst h6
  rw [h7] at h3
  simp only [Option.some.injEq, DataW.lit.injEq, Lit.int.injEq, true_and] at h3
  subst h3
  have := congrArg (·[0]?) h5
  rw [hc, hcu] at this
  simpa [List.getElem?_take, List.getElem?_drop, ho] using this
end Ld
theorem heap_lt {W : World} {g j : Nat} {v : Value} (h : W.cell? ⟨g, j, none⟩ = some v) : g < W.heap.size := by
  apply Classical.byContradiction
  intro hlt
  have : W.heap[g]? = none := by simp; omega
  simp [World.cell?, this] at h
def kopsL : List (DataW Unit) := Kd.opsT.map fun s => .agg [.lit (.int .u8 s.1), .lit (.int .u8 s.2.1), .lit (.int .i64 s.2.2)]
theorem kops_eq : Rows.laid_loomwork_kinds_operators = .agg kopsL := rfl
theorem globK_of {W : World} (h : laidMetH Tryd.prog [("loomwork/kinds.operators", Rows.laid_loomwork_kinds_operators)] W) : GlobK W := by
  have h : laidMet Tryd.prog [("loomwork/kinds.operators", Rows.laid_loomwork_kinds_operators)] W := h
  obtain ⟨ps, ⟨g', t', cs, fuel, p, q, hg', ht', hvar, hd, _, _⟩, _⟩ := h
  obtain rfl := Option.some.inj ((show Tryd.prog.globalNamed "loomwork/kinds.operators" = some 0 by kernel_rfl).symm.trans hg')
  obtain rfl := Option.some.inj ((show (Tryd.prog.globals[0]?).map (·.type) = some 103 by kernel_rfl).symm.trans ht')
  rw [kops_eq] at hd
  have hu : Tryd.prog.underlying 103 = some (.array 15 102) := by kernel_rfl
  have hF : Ld.fieldsOf Tryd.prog 102 = some [(5, 0), (5, 1), (3, 2)] := by kernel_rfl
  have hc : Tryd.prog.cellsOf 102 = 3 := by kernel_rfl
  have h5 : Tryd.prog.cellsOf 5 = 1 := by kernel_rfl
  have h3 : Tryd.prog.cellsOf 3 = 1 := by kernel_rfl
  have u3 : Tryd.prog.underlying 3 = some (.int .i64) := by kernel_rfl
  have u5 : Tryd.prog.underlying 5 = some (.int .u8) := by kernel_rfl
  have hv := fun j => World.var?_cell (show Tryd.prog.globalNamed "loomwork/kinds.operators" = some 0 by kernel_rfl) hvar j
  have hL : ∀ k, k < 15 → kopsL[k]? = some (.agg [.lit (.int .u8 (Kd.opN k).1), .lit (.int .u8 (Kd.opN k).2.1), .lit (.int .i64 (Kd.opN k).2.2)]) := by
    intro k hk
    have hk' : k < Kd.opsT.length := hk
    unfold kopsL Kd.opN
    rw [List.getElem?_map, List.getElem?_eq_getElem hk', List.getD_eq_getElem?_getD, List.getElem?_eq_getElem hk']
    rfl
  have hall : ∀ k, k < 15 → W.cell? ⟨0, k * 3, none⟩ = some (.int .u8 (Kd.opN k).1) ∧ W.cell? ⟨0, k * 3 + 1, none⟩ = some (.int .u8 (Kd.opN k).2.1) ∧ W.cell? ⟨0, k * 3 + 2, none⟩ = some (.int .i64 (Kd.opN k).2.2) := by
    intro k hk
    have e := hL k hk
    refine ⟨?_, ?_, ?_⟩
    · rw [hv, ← Array.getElem?_toList]; exact Ld.row_int (j := 0) hu hc hF hd hk rfl u5 h5 (by decide) e rfl
    · rw [hv, ← Array.getElem?_toList]; exact Ld.row_int (j := 1) hu hc hF hd hk rfl u5 h5 (by decide) e rfl
    · rw [hv, ← Array.getElem?_toList]; exact Ld.row_int (j := 2) hu hc hF hd hk rfl u3 h3 (by decide) e rfl
  exact ⟨heap_lt (hall 0 (by decide)).1, hall⟩
section
variable {H : Type} {enc : TypeId × Value → H} {w : World}
instance : Inhabited Cd.In := ⟨⟨0, 0, 0, 0, 0, 0⟩⟩
theorem choose_lt2 {α : Type} [Inhabited α] {n : Nat} {p : Nat → α → Prop} (h : ∀ i, i < n → ∃ x, p i x) : ∃ f : Nat → α, ∀ i, i < n → p i (f i) := by
  classical
  refine ⟨fun i => if h1 : i < n then Classical.choose (h i h1) else default, fun i hi => ?_⟩
  simp only [hi, dif_pos]
  exact Classical.choose_spec (h i hi)
theorem c22 : Tryd.prog.cellsOf 22 = 1 := by kernel_rfl
theorem c23 : Tryd.prog.cellsOf 23 = 1 := by kernel_rfl
theorem c25 : Tryd.prog.cellsOf 25 = 7 := by kernel_rfl
theorem c35 : Tryd.prog.cellsOf 52 = 6 := by kernel_rfl
theorem y3 : Tryd.prog.bytesOf 3 = 8 := by kernel_rfl
theorem y35 : Tryd.prog.bytesOf 52 = 48 := by kernel_rfl
theorem seven_of {cs : List Value} (h : cs.length = 7) : ∃ a b c d e f g, cs = [a, b, c, d, e, f, g] := by
  match cs, h with
  | [a, b, c, d, e, f, g], _ => exact ⟨a, b, c, d, e, f, g, rfl⟩
theorem six_of {cs : List Value} (h : cs.length = 6) : ∃ a b c d e f, cs = [a, b, c, d, e, f] := by
  match cs, h with
  | [a, b, c, d, e, f], _ => exact ⟨a, b, c, d, e, f, rfl⟩
theorem num_of {v : Value} {t : TypeId} {k : IntKind} (ht : Tryd.prog.underlying t = some (.int k)) (h : Rd0 enc w t [v]) : ∃ n, v = .int k n := by
  obtain ⟨n, e⟩ := open_num ht h
  injection e with e _
  exact ⟨n, e⟩
theorem long_of {v : Value} {t : TypeId} (ht : Tryd.prog.underlying t = some (.int .i64)) (h : Rd0 enc w t [v]) : ∃ n, v = .int .i64 n ∧ I64 n := by
  obtain ⟨fuel, x, h, _⟩ := h
  obtain ⟨n, hs, _, hw⟩ := DataW.trod_int ht h
  injection hs with e _
  refine ⟨n, e, ?_⟩
  have hw2 : (decide (IntKind.i64.min ≤ n) && decide (n ≤ IntKind.i64.max)) = true := hw
  rw [Bool.and_eq_true, decide_eq_true_iff, decide_eq_true_iff] at hw2
  have e1 : IntKind.i64.min = -9223372036854775808 := by rfl
  have e2 : IntKind.i64.max = 9223372036854775807 := by rfl
  unfold I64
  omega
theorem open_ints {v : Value} (h : Rd0 enc w 22 [v]) : ∃ a n c L, v = .slice a n c ∧ n = L.length ∧ HInts (fun _ => True) w (.slice a n c) L := by
  obtain ⟨fuel, x, h, hw⟩ := h
  obtain ⟨a, n, c, C, m, D, Pl, e, hs, _, hi⟩ := open_row Tryd.underlying22 c3 (by decide) y3 h hw
  injection e with e _
  obtain ⟨f, hf⟩ := choose_lt2 (n := n) (α := Int) (p := fun i x => C i = [.int .i64 x]) (fun i h => by
    obtain ⟨q, e⟩ := open_num (enc := enc) (w := w) Tryd.underlying3 ⟨m, _, (hi i h).1, (hi i h).2.1⟩; exact ⟨q, e⟩)
  obtain ⟨l, hl, hg⟩ := list_of n f
  refine ⟨a, n, c, l, e, hl.symm, C, by rw [hl]; exact hs, fun i h => ?_⟩
  rw [hg i h]
  exact hf i (by omega)
theorem open_ins {cs : List Value} (h : Rd0 enc w 52 cs) : ∃ s : Cd.In, cs = s.cs ∧ I64 s.b ∧ I64 s.n := by
  have hl := len_of Tryd.underlying52 h
  rw [c35] at hl
  obtain ⟨v0, v1, v2, v3, v4, v5, rfl⟩ := six_of hl
  obtain ⟨n0, rfl⟩ := num_of Tryd.underlying3 (field_of Tryd.underlying52 h 0 3 0 rfl c3 _ rfl)
  obtain ⟨n1, rfl⟩ := num_of Tryd.underlying3 (field_of Tryd.underlying52 h 1 3 1 rfl c3 _ rfl)
  obtain ⟨n2, rfl⟩ := num_of Tryd.underlying3 (field_of Tryd.underlying52 h 2 3 2 rfl c3 _ rfl)
  obtain ⟨n3, rfl⟩ := num_of Tryd.underlying3 (field_of Tryd.underlying52 h 3 3 3 rfl c3 _ rfl)
  obtain ⟨n4, rfl, hn⟩ := long_of Tryd.underlying3 (field_of Tryd.underlying52 h 4 3 4 rfl c3 _ rfl)
  obtain ⟨n5, rfl, hn5⟩ := long_of Tryd.underlying2 (field_of Tryd.underlying52 h 5 2 5 rfl c2 _ rfl)
  exact ⟨⟨n0, n1, n2, n3, n4, n5⟩, rfl, hn, hn5⟩
theorem open_code {v : Value} (h : Rd0 enc w 23 [v]) : ∃ a n c L, v = .slice a n c ∧ n = L.length ∧ HIns (fun _ => True) w (.slice a n c) L ∧ ∀ s ∈ L, I64 s.b ∧ I64 s.n := by
  obtain ⟨fuel, x, h, hw⟩ := h
  obtain ⟨a, n, c, C, m, D, Pl, e, hs, _, hi⟩ := open_row Tryd.underlying23 c35 (by decide) y35 h hw
  injection e with e _
  obtain ⟨f, hf⟩ := choose_lt2 (n := n) (α := Cd.In) (p := fun i s => C i = s.cs ∧ I64 s.b ∧ I64 s.n) (fun i h => by
    exact open_ins (enc := enc) (w := w) ⟨m, _, (hi i h).1, (hi i h).2.1⟩)
  obtain ⟨l, hl, hg⟩ := list_of n f
  refine ⟨a, n, c, l, e, hl.symm, ⟨C, by rw [hl]; exact hs, fun i h => ?_⟩, fun p hp => ?_⟩
  · rw [hg i h]
    exact (hf i (by omega)).1
  · obtain ⟨i, hi2, rfl⟩ := List.getElem_of_mem hp
    rw [hg i hi2]
    exact (hf i (by omega)).2
theorem open_image {cs : List Value} (h : Rd0 enc w 25 cs) : ∃ aP aB aG aL cP cB cG cL, ∃ m : Cd.Im, cs = [.int .i64 m.c, .int .i64 m.R, .int .i64 m.cost, .slice aP m.P.length cP, .slice aB m.B.length cB, .slice aG m.G.length cG, .slice aL m.l.length cL] ∧ HIm (fun _ => True) w aP aB aG aL cP cB cG cL m ∧ ∀ s ∈ m.l, I64 s.n := by
  have hl := len_of Tryd.underlying25 h
  rw [c25] at hl
  obtain ⟨v0, v1, v2, v3, v4, v5, v6, rfl⟩ := seven_of hl
  obtain ⟨n0, rfl⟩ := num_of Tryd.underlying3 (field_of Tryd.underlying25 h 0 3 0 rfl c3 _ rfl)
  obtain ⟨n1, rfl⟩ := num_of Tryd.underlying3 (field_of Tryd.underlying25 h 1 3 1 rfl c3 _ rfl)
  obtain ⟨n2, rfl⟩ := num_of Tryd.underlying3 (field_of Tryd.underlying25 h 2 3 2 rfl c3 _ rfl)
  obtain ⟨aP, nP, cP, P, rfl, rfl, hP⟩ := open_ints (field_of Tryd.underlying25 h 3 22 3 rfl c22 _ rfl)
  obtain ⟨aB, nB, cB, B, rfl, rfl, hB⟩ := open_ints (field_of Tryd.underlying25 h 4 22 4 rfl c22 _ rfl)
  obtain ⟨aG, nG, cG, G, rfl, rfl, hG⟩ := open_ints (field_of Tryd.underlying25 h 5 22 5 rfl c22 _ rfl)
  obtain ⟨aL, nL, cL, L, rfl, rfl, hL, wL⟩ := open_code (field_of Tryd.underlying25 h 6 23 6 rfl c23 _ rfl)
  exact ⟨aP, aB, aG, aL, cP, cB, cG, cL, ⟨n0, n1, n2, P, B, G, L⟩, rfl, ⟨hP, hB, hG, hL, fun s hs => (wL s hs).1⟩, fun s hs => (wL s hs).2⟩
theorem c40 : Tryd.prog.cellsOf 40 = 1 := by kernel_rfl
theorem y2 : Tryd.prog.bytesOf 2 = 8 := by kernel_rfl
theorem y40 : Tryd.prog.bytesOf 40 = 24 := by kernel_rfl
theorem open_longsW {v : Value} (h : Rd0 enc w 40 [v]) : ∃ a n c L, v = .slice a n c ∧ n = L.length ∧ HInts (fun _ => True) w (.slice a n c) L ∧ Lo.Wd L := by
  obtain ⟨fuel, x, h, hw⟩ := h
  obtain ⟨a, n, c, C, m, D, Pl, e, hs, _, hi⟩ := open_row Tryd.underlying40 c2 (by decide) y2 h hw
  injection e with e _
  obtain ⟨f, hf⟩ := choose_lt2 (n := n) (α := Int) (p := fun i x => C i = [.int .i64 x] ∧ I64 x) (fun i h => by
    obtain ⟨u, hu⟩ : ∃ u, C i = [u] := by
      obtain ⟨_, _, _, _, _, h5⟩ := hs
      obtain ⟨_, _, _, _, _, h6⟩ := h5 (by omega)
      exact List.length_eq_one_iff.1 (h6 i h).1
    have h0 : Rd0 enc w 2 [u] := by rw [← hu]; exact ⟨m, _, (hi i h).1, (hi i h).2.1⟩
    obtain ⟨q, e, hq⟩ := long_of Tryd.underlying2 h0
    exact ⟨q, by rw [hu, e], hq⟩)
  obtain ⟨l, hl, hg⟩ := list_of n f
  refine ⟨a, n, c, l, e, hl.symm, ⟨C, by rw [hl]; exact hs, fun i h => ?_⟩, fun p hp => ?_⟩
  · rw [hg i h]
    exact (hf i (by omega)).1
  · obtain ⟨i, hi2, rfl⟩ := List.getElem_of_mem hp
    rw [hg i hi2]
    exact (hf i (by omega)).2
theorem open_rowsW {v : Value} (h : Rd0 enc w 26 [v]) : ∃ a c L, v = .slice a L.length c ∧ HRow kLL (fun _ => True) w (.slice a L.length c) L ∧ ∀ r ∈ L, Lo.Wd r := by
  obtain ⟨fuel, x, h, hw⟩ := h
  obtain ⟨a, n, c, C, m, D, Pl, e, hs, _, hi⟩ := open_row Tryd.underlying26 c40 (by decide) y40 h hw
  injection e with e _
  obtain ⟨f, hf⟩ := choose_lt2 (n := n) (α := List Int) (p := fun i x => (∃ u, C i = [u] ∧ HInts (fun _ => True) w u x) ∧ Lo.Wd x) (fun i h => by
    obtain ⟨u, hu⟩ : ∃ u, C i = [u] := by
      obtain ⟨_, _, _, _, _, h5⟩ := hs
      obtain ⟨_, _, _, _, _, h6⟩ := h5 (by omega)
      exact List.length_eq_one_iff.1 (h6 i h).1
    have h0 : Rd0 enc w 40 [u] := by rw [← hu]; exact ⟨m, _, (hi i h).1, (hi i h).2.1⟩
    obtain ⟨a, n, c, L, e, -, hL, hW⟩ := open_longsW h0
    exact ⟨L, ⟨u, hu, by rw [e]; exact hL⟩, hW⟩)
  obtain ⟨l, hl, hg⟩ := list_of n f
  refine ⟨a, c, l, by rw [hl]; exact e, ?_, fun p hp => ?_⟩
  · rw [hl]
    exact ⟨C, by rw [hl]; exact hs, fun i h => by rw [hg i h]; exact (hf i (by omega)).1⟩
  · obtain ⟨i, hi2, rfl⟩ := List.getElem_of_mem hp
    rw [hg i hi2]
    exact (hf i (by omega)).2
end
end Go.Proofs.YtkgbmgpdehmiiaaDoor
