/-
  DERIVED. Rows of numbers: rows of the call's own, sorted, each number once.
-/
import Derived.Test.YtfhjejmadhcmnaaDoorSy2
import Derived.Test.YtfhjejmadhcmnaaDoorOwn3
import Derived.Test.YtfhjejmadhcmnaaDoorSm1
import Derived.Shelf.Lay
import Derived.Shelf.Sort.Plain
import Derived.Shelf.Slices.CompactI
import Derived.Shelf.Slices.In.SortNone
import Derived.Ground.NamesProg
namespace Go.Proofs.YtfhjejmadhcmnaaDoor
open Go.Shelf Go.RowKit Go.Lib Go.IntWalk Go.Sort
set_option linter.unusedVariables false
set_option linter.unusedSimpArgs false
set_option maxRecDepth 100000

/-- v is a row of numbers -/
def HInts (ok : Nat → Prop) (w : World) (v : Value) (L : List Int) : Prop := ∃ C, Sl ok 1 w v L.length C ∧ ∀ i (h : i < L.length), C i = [.int .i64 L[i]]
theorem HInts.at {ok : Nat → Prop} {w : World} {v : Value} {l : List Int} (h : HInts ok w v l) :
    ∃ ao cap, v = .slice ao l.length cap ∧ l.length ≤ cap ∧ cap ≤ maxLen ∧ ∀ i (h : i < l.length), ∃ b o, ao = some ⟨b, o, none⟩ ∧ b < w.heap.size ∧ w.cell? ⟨b, o + i, none⟩ = some (.int .i64 l[i]) := by
  obtain ⟨C, ⟨ao, cap, hv, h1, h2, h3⟩, hC⟩ := h
  refine ⟨ao, cap, hv, h1, h2, fun i hi => ?_⟩
  obtain ⟨b, o, ha, hob, hb, hc⟩ := h3 (by omega)
  have := (hc i hi).2 0 (by decide)
  rw [hC i hi] at this
  exact ⟨b, o, ha, hb, by simpa using this⟩
theorem HInts.keep {ok : Nat → Prop} {w w' : World} {v : Value} {l : List Int} (h : HInts ok w v l) (h1 : w.heap.size ≤ w'.heap.size) (h2 : ∀ i, ok i → i < w.heap.size → w'.heap[i]? = w.heap[i]?) : HInts ok w' v l := by
  obtain ⟨C, h3, h4⟩ := h
  exact ⟨C, h3.keep h1 h2, h4⟩
theorem HInts.under {ok : Nat → Prop} {w w' : World} {v : Value} {l : List Int} (h : HInts ok w v l) (b : Below w.heap.size w w') : HInts ok w' v l := h.keep b.size fun i _ hl => b.block i hl
theorem HInts.wide {ok ok' : Nat → Prop} {w : World} {v : Value} {l : List Int} (h : HInts ok w v l) (hk : ∀ i, ok i → i < w.heap.size → ok' i) : HInts ok' w v l := by
  obtain ⟨C, h3, h4⟩ := h
  exact ⟨C, h3.wide hk, h4⟩

theorem Tryd.infoI : (Tryd.prog.info? 3).map (fun i => (i.zero, i.size, i.bytes)) = some (some (.int .i64 0), 1, 8) := by kernel_rfl
def kInt : Kind Int where
  ty := 3
  k := 1
  bytes := 8
  zero := .int .i64 0
  E := fun _ _ cs x => cs = [.int .i64 x]
  pos := by decide
  zs := rfl
  info := Tryd.infoI
  len := by rintro _ _ _ _ rfl; rfl
  one := by rintro _ _ _ _ rfl; simp; rfl
  keep := by rintro _ _ _ _ _ rfl _ _; rfl
  wide := by rintro _ _ _ _ _ rfl _; rfl
theorem ints_row {ok : Nat → Prop} {w : World} {v : Value} {l : List Int} (h : HRow kInt ok w v l) : HInts ok w v l := h

def ics (l : List Int) : List Value := l.map (Value.int .i64)
theorem ics_len (l : List Int) : (ics l).length = l.length := by simp [ics]
theorem ics_append (a b : List Int) : ics (a ++ b) = ics a ++ ics b := by simp [ics]
theorem ics_flat {l : List Int} {D : Nat → List Value} (hD : ∀ j (h : j < l.length), D j = [.int .i64 l[j]]) : ∀ n, n ≤ l.length → flat D n = ics (l.take n)
  | 0, _ => by simp [flat, ics]
  | n + 1, h => by
    rw [flat, ics_flat hD n (by omega), hD n (by omega), List.take_succ_eq_append_getElem (by omega), ics_append]
    rfl
/-- a block of numbers, and what lies behind them -/
def IBlk (w : World) (g : Nat) (l : List Int) (sp : List Value) : Prop := w.heap[g]? = some (.cells (ics l ++ sp).toArray 3 (0, 0))
theorem IBlk.cell {w : World} {g : Nat} {l : List Int} {sp : List Value} (h : IBlk w g l sp) {i : Nat} (hi : i < l.length) : w.cell? ⟨g, i, none⟩ = some (.int .i64 l[i]) := by
  have := cell_of h i
  rw [this, List.getElem?_toArray, List.getElem?_append_left (by rw [ics_len]; exact hi)]
  simp [ics, hi]
theorem own_rows {B : Nat} {w : World} {v : Value} {l : List Int} (h : OwnL kInt B w v l) : w.ownsRow B 3 1 v l.length (ics l) := by
  obtain ⟨D, h1, h2⟩ := h
  have e1 := ics_flat (l := l) (D := D) (fun j hj => h2 j hj) l.length (Nat.le_refl _)
  rw [List.take_length] at e1
  rw [← e1]
  exact h1
theorem flat_ics (l : List Int) : flat (fun j => [.int .i64 (l[j]!)]) l.length = ics l := by
  have e1 := ics_flat (l := l) (D := fun j => [.int .i64 (l[j]!)]) (fun j hj => by simp [hj]) l.length (Nat.le_refl _)
  rw [List.take_length] at e1
  exact e1
theorem rows_own {B : Nat} {w : World} {v : Value} {l : List Int} (h : w.ownsRow B 3 1 v l.length (ics l)) : OwnL kInt B w v l := by
  refine ⟨fun j => [.int .i64 (l[j]!)], ?_, fun j hj => ?_⟩
  · rw [flat_ics]; exact h
  · show [Value.int .i64 (l[j]!)] = [.int .i64 (l[j])]
    simp [hj]
theorem own_iblk {B : Nat} {w : World} {v : Value} {l : List Int} (h : OwnL kInt B w v l) :
    (v = .slice none 0 0 ∧ l = []) ∨ ∃ g c sp, v = .slice (some ⟨g, 0, none⟩) l.length c ∧ B ≤ g ∧ IBlk w g l sp ∧ l.length ≤ c ∧ c ≤ maxLen ∧ l.length + sp.length = c := by
  have h1 := own_rows h
  rcases h1.2 with ⟨hv, h0⟩ | ⟨g, cap, cur, hv, hb, hg, hnc, hcm, hcs, htake⟩
  · exact .inl ⟨hv, List.eq_nil_of_length_eq_zero h0⟩
  · have e2 : cur = (ics l ++ cur.toList.drop l.length).toArray := by
      have : cur.toList = ics l ++ cur.toList.drop l.length := by
        have ht : cur.toList.take l.length = ics l := by simpa using htake
        rw [← ht, List.take_append_drop]
      rw [← this]
    refine .inr ⟨g, cap, cur.toList.drop l.length, hv, hb, ?_, hnc, hcm, ?_⟩
    · unfold IBlk
      rw [← e2]
      exact hg
    · have hcs2 : cur.size = cap := by simpa using hcs
      simp
      omega
theorem iblk_own {B g c : Nat} {w : World} {l : List Int} {sp : List Value} (h : IBlk w g l sp) (hB : B ≤ g) (hc : l.length ≤ c) (hm : c ≤ maxLen) (hs : l.length + sp.length = c) : OwnL kInt B w (.slice (some ⟨g, 0, none⟩) l.length c) l := by
  refine rows_own ⟨by rw [ics_len]; omega, .inr ⟨g, c, _, rfl, hB, h, hc, hm, ?_, ?_⟩⟩
  · show (ics l ++ sp).toArray.size = c * 1
    simp [ics_len]
    omega
  · show (ics l ++ sp).toArray.toList.take (l.length * 1) = ics l
    rw [List.toList_toArray, Nat.mul_one, ← ics_len l, List.take_left]
theorem IBlk.holds {w : World} {g : Nat} {l : List Int} {sp : List Value} (h : IBlk w g l sp) : Holds (Value.int .i64) w g 0 l.toArray := by
  intro j hj
  have hj2 : j < l.length := by simpa using hj
  rw [Nat.zero_add]
  refine ⟨?_, free_of h j⟩
  rw [h.cell hj2]
  simp [hj2]
theorem HInts.news {ok : Nat → Prop} {w : World} {a : Addr} {cap : Nat} {l : List Int} (h : HInts ok w (.slice (some a) l.length cap) l) : ∀ j u, (ics l)[j]? = some u → w.cell? (a.add j) = some u := by
  obtain ⟨ao, cap', ev, _, _, hat⟩ := h.at
  injection ev with ev1 _ _
  subst ev1
  intro j u hj
  have hjl : j < l.length := by
    rcases Nat.lt_or_ge j l.length with h | h
    · exact h
    · rw [List.getElem?_eq_none (by rw [ics_len]; exact h)] at hj; cases hj
  obtain ⟨b, o, e, hb, c0⟩ := hat j hjl
  injection e with e
  subst e
  have adds : (⟨b, o, none⟩ : Addr).add j = ⟨b, o + j, none⟩ := by unfold Addr.add; split <;> simp_all
  rw [adds, c0, ← hj]
  simp [ics, hjl]
theorem ics_one (l : List Int) : ∀ u ∈ ics l, u.oneCell' = true := by
  intro u hu
  simp [ics] at hu
  obtain ⟨x, _, rfl⟩ := hu
  rfl
/-- append of a row to a row of the call's own -/
theorem run_cat {ok : Nat → Prop} {B : Nat} {w : World} {v u : Value} {l m : List Int} {ty : TypeId} (hown : OwnL kInt B w v l) (hm : HInts ok w u m) (hB : B ≤ w.heap.size) (hlen : l.length + m.length ≤ 3000000) :
    ∃ v' w', (Builtin.append_ #[22, 22] ty #[v, u]).run Tryd.prog w = .ok v' w' ∧ OwnL kInt B w' v' (l ++ m) ∧ Below B w w' ∧ w.grownBy w' v.ownBlock := by
  obtain ⟨i0, hi, hz0, hz1, hz2⟩ := info_parts kInt.info
  obtain ⟨ao, cap, rfl, hc1, hc2, hat⟩ := hm.at
  cases ao with
  | none =>
    cases m with
    | nil =>
      rw [List.length_nil, List.append_nil]
      have hr : (Builtin.append_ #[22, 22] ty #[v, .slice none 0 cap]).run Tryd.prog w = .ok v w := by
        have hi' : Tryd.prog.info? 3 = some i0 := hi
        rcases (own_rows hown).2 with ⟨rfl, h0⟩ | ⟨g, c, cur, rfl, _, _, hnc, _⟩
        · simp [Builtin.append_, run_underlying Tryd.underlying22, sizeOf, typeInfo, hi', Builtin.lenOf, Builtin.firstCells]
        · simp [Builtin.append_, run_underlying Tryd.underlying22, sizeOf, typeInfo, hi', Builtin.lenOf, Builtin.firstCells, hnc, storeCells]
      exact ⟨v, w, hr, hown, Below.refl _ _, ⟨rfl, rfl, rfl, Nat.le_refl _, fun _ _ _ => rfl⟩⟩
    | cons t m' =>
      obtain ⟨b, o, e, _⟩ := hat 0 (by simp)
      cases e
  | some a =>
    obtain ⟨v', w', hr, h2, h3, h4⟩ := run_push (P := Tryd.prog) w B 22 ty 3 i0 kInt.zero 1 8 Tryd.underlying22 hi hz0 hz1 hz2 rfl (by decide) v l.length _ (own_rows hown) a m.length cap (ics m) (by rw [ics_len]; omega) hm.news (ics_one m) (by unfold maxLen; omega) (by omega) hB
    refine ⟨v', w', hr, rows_own ?_, Below.push (Below.refl B w) hB (own_rows hown) h3, h3⟩
    rw [List.length_append, ics_append]
    exact h2
theorem oper_cat {w w' : World} {o : Oper} {a : Act} {K : Act → World → Prop} {Q : Exit → Act → World → Prop} (s x : Operand) (ho : o.op = .call { callee := .builtin .append, args := #[s, x], argTypes := #[22, 22] }) (v u v' : Value) (hs : a.eval s = v) (hx : a.eval x = u)
    (hr : (Builtin.append_ #[22, 22] o.type #[v, u]).run Tryd.prog w = .ok v' w') (h : K (a.put o.dst v') w') : Oper.wp Tryd.prog o a w K Q := by
  unfold Oper.wp execOp
  simp only [ho, resolve, invoke, builtin, Sem.run_bind, Sem.run_pure, Result.andThen_ok, List.map_toArray, List.map_cons, List.map_nil, hs, hx, hr]
  exact h

shelf_lay Lays.n189 Nm 189 at Tryd as lay16
shelf_lay Lays2.n20 Nm2 20 at Tryd as lay17
end Go.Proofs.YtfhjejmadhcmnaaDoor
