/-
  DERIVED. A row of pushes, copied.
-/
import Derived.Test.YtfhjejmadhcmnaaDoorSy14
namespace Go.Proofs.YtfhjejmadhcmnaaDoor
open Go.Shelf Go.RowKit Go.Lib Go.IntWalk
set_option linter.unusedVariables false
set_option linter.unusedSimpArgs false
set_option maxRecDepth 100000

def pcs (l : List Pu) : List Value := l.flatMap Pu.cs
theorem pcs_cons (x : Pu) (t : List Pu) : pcs (x :: t) = x.cs ++ pcs t := by simp [pcs]
theorem pcs_append (a b : List Pu) : pcs (a ++ b) = pcs a ++ pcs b := by simp [pcs]
theorem pcs_len : ∀ (l : List Pu), (pcs l).length = l.length * 4
  | [] => rfl
  | x :: t => by
    rw [pcs_cons, List.length_append, pcs_len t]
    simp [Pu.cs]
    omega
theorem pcs_at : ∀ (l : List Pu) (i r : Nat), r < 4 → (pcs l)[i * 4 + r]? = (l[i]?).bind (fun p => p.cs[r]?)
  | [], i, r, h => by simp [pcs]
  | x :: t, 0, r, h => by
    rw [pcs_cons, Nat.zero_mul, Nat.zero_add, List.getElem?_append_left (by simpa [Pu.cs] using h)]
    simp
  | x :: t, i + 1, r, h => by
    have e : (i + 1) * 4 + r = 4 + (i * 4 + r) := by omega
    rw [pcs_cons, e, List.getElem?_append_right (by simp [Pu.cs])]
    have e2 : 4 + (i * 4 + r) - x.cs.length = i * 4 + r := by simp [Pu.cs]
    rw [e2, pcs_at t i r h]
    simp
theorem Tryd.infoP : (Tryd.prog.info? 36).map (fun i => (i.zero, i.size, i.bytes)) = some (some (.agg #[.int .i64 0, .int .i64 0, .int .i64 0, .int .i64 0]), 4, 32) := by kernel_rfl
theorem cs_one (p : Pu) : ∀ u ∈ p.cs, u.oneCell' = true := by
  intro u hu
  simp [Pu.cs] at hu
  rcases hu with rfl | rfl | rfl | rfl <;> rfl
def kPu : Kind Pu where
  ty := 36
  k := 4
  bytes := 32
  zero := .agg #[.int .i64 0, .int .i64 0, .int .i64 0, .int .i64 0]
  E := fun _ _ cs x => cs = x.cs
  pos := by decide
  zs := rfl
  info := Tryd.infoP
  len := by rintro _ _ _ _ rfl; rfl
  one := by rintro _ _ _ x rfl; exact cs_one x
  keep := by rintro _ _ _ _ _ rfl _ _; rfl
  wide := by rintro _ _ _ _ _ rfl _; rfl
theorem pu_row {ok : Nat → Prop} {w : World} {v : Value} {l : List Pu} (h : HRow kPu ok w v l) : HPu ok w v l := h
theorem pcs_flat {l : List Pu} {D : Nat → List Value} (hD : ∀ j (h : j < l.length), D j = (l[j]).cs) : ∀ n, n ≤ l.length → flat D n = pcs (l.take n)
  | 0, _ => by simp [flat, pcs]
  | n + 1, h => by
    rw [flat, pcs_flat hD n (by omega), hD n (by omega), List.take_succ_eq_append_getElem (by omega), pcs_append]
    simp [pcs]
def pD (l : List Pu) (j : Nat) : List Value := if h : j < l.length then (l[j]).cs else []
theorem rows_ownP {B : Nat} {w : World} {v : Value} {l : List Pu} (h : w.ownsRow B 36 4 v l.length (pcs l)) : OwnL kPu B w v l := by
  have hD : ∀ j (h : j < l.length), pD l j = (l[j]).cs := fun j hj => by unfold pD; rw [dif_pos hj]
  refine ⟨pD l, ?_, fun j hj => hD j hj⟩
  have e := pcs_flat hD l.length (Nat.le_refl _)
  rw [List.take_length] at e
  rw [e]
  exact h
theorem HPu.news {ok : Nat → Prop} {w : World} {a : Addr} {cap : Nat} {l : List Pu} (h : HPu ok w (.slice (some a) l.length cap) l) : ∀ j u, (pcs l)[j]? = some u → w.cell? (a.add j) = some u := by
  obtain ⟨ao, cap', ev, _, _, hat⟩ := h.at
  injection ev with ev1 _ _
  subst ev1
  intro j u hj
  have hjl : j < l.length * 4 := by
    rcases Nat.lt_or_ge j (l.length * 4) with h | h
    · exact h
    · rw [List.getElem?_eq_none (by rw [pcs_len]; exact h)] at hj; cases hj
  have hi : j / 4 < l.length := by omega
  obtain ⟨b, o, e, hb, c0, c1, c2, c3⟩ := hat (j / 4) hi
  injection e with e
  subst e
  have adds : (⟨b, o, none⟩ : Addr).add j = ⟨b, o + j, none⟩ := by unfold Addr.add; split <;> simp_all
  rw [adds]
  have e3 : j / 4 * 4 + j % 4 = j := by omega
  have h4 := pcs_at l (j / 4) (j % 4) (by omega)
  rw [e3, hj] at h4
  rw [List.getElem?_eq_getElem hi] at h4
  simp only [Option.bind_some] at h4
  rcases (by omega : j % 4 = 0 ∨ j % 4 = 1 ∨ j % 4 = 2 ∨ j % 4 = 3) with q | q | q | q
  all_goals rw [q] at h4 e3
  all_goals simp [Pu.cs] at h4
  all_goals subst h4
  · rw [← c0]; congr 2; omega
  · rw [← c1]; congr 2; omega
  · rw [← c2]; congr 2; omega
  · rw [← c3]; congr 2; omega
theorem pcs_one (l : List Pu) : ∀ u ∈ pcs l, u.oneCell' = true := by
  intro u hu
  simp [pcs] at hu
  obtain ⟨x, _, h⟩ := hu
  exact cs_one x u h
/-- append(nil, row) of pushes -/
theorem run_copyP {ok : Nat → Prop} {B : Nat} {w : World} {u : Value} {m : List Pu} {ty : TypeId} (hm : HPu ok w u m) (hB : B ≤ w.heap.size) (hlen : m.length ≤ 1000000) :
    ∃ v' w', (Builtin.append_ #[23, 23] ty #[.slice none 0 0, u]).run Tryd.prog w = .ok v' w' ∧ OwnL kPu B w' v' m ∧ Below B w w' := by
  obtain ⟨i0, hi, hz0, hz1, hz2⟩ := info_parts kPu.info
  have hnil : w.ownsRow B 36 4 (.slice none 0 0) 0 [] := ⟨rfl, .inl ⟨rfl, rfl⟩⟩
  obtain ⟨ao, cap, rfl, hc1, hc2, hat⟩ := hm.at
  cases ao with
  | none =>
    cases m with
    | nil =>
      have hr : (Builtin.append_ #[23, 23] ty #[.slice none 0 0, .slice none 0 cap]).run Tryd.prog w = .ok (.slice none 0 0) w := by
        have hi' : Tryd.prog.info? 36 = some i0 := hi
        simp [Builtin.append_, run_underlying Tryd.underlying23, sizeOf, typeInfo, hi', Builtin.lenOf, Builtin.firstCells]
      exact ⟨_, w, hr, OwnL.nil, Below.refl _ _⟩
    | cons t m' =>
      obtain ⟨b, o, e, _⟩ := hat 0 (by simp)
      cases e
  | some a =>
    obtain ⟨v', w', hr, h2, h3, h4⟩ := run_push (P := Tryd.prog) w B 23 ty 36 i0 kPu.zero 4 32 Tryd.underlying23 hi hz0 hz1 hz2 rfl (by decide) (.slice none 0 0) 0 [] hnil a m.length cap (pcs m) (pcs_len m) hm.news (pcs_one m) (by unfold maxLen; omega) (by omega) hB
    refine ⟨v', w', hr, rows_ownP ?_, Below.push (Below.refl B w) hB hnil h3⟩
    rw [Nat.zero_add, List.nil_append] at h2
    exact h2
theorem wpList_catP {w w' : World} {ops : Array Oper} {rest : List Oper} {o : Oper} {a : Act} {Q : Exit → Act → World → Prop} (hgd : o.guard = none) (s x : Operand) (ho : o.op = .call { callee := .builtin .append, args := #[s, x], argTypes := #[23, 23] }) (v u v' : Value) (hs : a.eval s = v) (hx : a.eval x = u)
    (hr : (Builtin.append_ #[23, 23] o.type #[v, u]).run Tryd.prog w = .ok v' w') (h : wpList Tryd.prog ops Q rest (a.put o.dst v') w') : wpList Tryd.prog ops Q (o :: rest) a w := by
  refine wpList_plain hgd fun _ hK => ?_
  unfold Oper.wp execOp
  simp only [ho, resolve, invoke, builtin, Sem.run_bind, Sem.run_pure, Result.andThen_ok, List.map_toArray, List.map_cons, List.map_nil, hs, hx, hr]
  exact hK _ _ h
end Go.Proofs.YtfhjejmadhcmnaaDoor
