
/-
  DERIVED. A row put behind a row of the call's own; programs that are the same but for their places.
-/
import Derived.Test.YtmgaeapckfdbpaaDoorOwn2
import Derived.Test.YtmgaeapckfdbpaaDoorCp7
import Derived.Test.YtmgaeapckfdbpaaDoorM11
import Derived.Test.YtmgaeapckfdbpaaDoorM40
namespace Go.Proofs.YtmgaeapckfdbpaaDoor
open Go.RowKit Go.IntWalk
set_option linter.unusedVariables false
set_option linter.unusedSimpArgs false

theorem flat_app (C D : Nat → List Value) (n : Nat) : ∀ m, flat (fun q => if q < n then C q else D (q - n)) (n + m) = flat C n ++ flat D m
  | 0 => by
    rw [Nat.add_zero, flat_congr (D := C) n (fun q hq => by rw [if_pos hq])]
    simp [flat]
  | m + 1 => by
    rw [← Nat.add_assoc, flat, flat_app C D n m, flat, if_neg (by omega), List.append_assoc]
    congr 3
    omega

/-- a copy of a program is a row of the call's own -/
theorem own_copy {w w' : World} {v : Value} {l : List Nd} {D : Nat → List Value} (h : w'.ownsRow w.heap.size 39 7 v l.length (flat D l.length)) (hD : ∀ j (h : j < l.length), ∃ x : NdV, D j = x.cells ∧ HNd (Off w.heap.size v) w' x l[j]) :
    OwnX kNode (fun i => w.heap.size ≤ i ∧ i < w'.heap.size) w' v l := by
  refine ⟨D, ⟨h.1, h.2.imp id ?_⟩, fun k hk => World.ownsRow.lt h k hk, fun j hj => ?_⟩
  · rintro ⟨g, cp, cur, e1, e2, e3⟩
    exact ⟨g, cp, cur, e1, Nat.zero_le _, e3⟩
  · exact kNode.wide (hD j hj) (fun k hk hl => ⟨⟨hk.1, hl⟩, hk.2⟩)

/-- a whole row behind a row of the call's own -/
theorem run_joinX {α : Type} (T : Kind α) {w : World} (t ty : TypeId) (ht : Tryd.prog.underlying t = some (.slice T.ty)) {ok okr : Nat → Prop} {v u : Value} {l r : List α} (hown : OwnX T ok w v l) (hr : HRow T okr w u r) (hne : r ≠ [])
    (hap : ∀ k, v.ownBlock = some k → ¬ okr k) (hM : (l.length + r.length) * T.bytes ≤ 140737488355328) (hm : l.length + r.length ≤ maxLen) :
    ∃ v' w', (Builtin.append_ #[t, t] ty #[v, u]).run Tryd.prog w = .ok v' w' ∧ HRow T (fun k => ok k ∨ okr k ∨ w.heap.size ≤ k) w' v' (l ++ r) ∧ w.grownBy w' v.ownBlock := by
  obtain ⟨i0, hi, hz0, hz1, hz2⟩ := info_parts T.info
  obtain ⟨D, hrow, hok, hD⟩ := hown
  obtain ⟨C, hS, hC⟩ := hr
  have hS0 := hS
  obtain ⟨ao, cap, rfl, h2, h3, h4⟩ := hS
  obtain ⟨b, o, rfl, hb, hbl, hcells⟩ := h4 (List.length_pos_iff.2 hne)
  have hCl : ∀ i, i < r.length → (C i).length = T.k := fun i hi => T.len (hC i hi)
  have hDl : ∀ i, i < l.length → (D i).length = T.k := fun i hi => T.len (hD i hi)
  have hone : ∀ x ∈ flat C r.length, x.oneCell' = true := fun x hx => by
    obtain ⟨i, hi, hx⟩ := flat_mem _ _ hx
    exact T.one (hC i hi) x hx
  obtain ⟨v', w', hrun, hrow', hgrow, hmv⟩ := run_push w 0 t ty T.ty i0 T.zero T.k T.bytes ht hi hz0 hz1 hz2 T.zs T.pos v l.length _ hrow ⟨b, o, none⟩ r.length cap (flat C r.length) (flat_len _ hCl) (Sl.news T.pos hS0) hone hm hM (Nat.zero_le _)
  refine ⟨v', w', hrun, ⟨fun q => if q < l.length then D q else C (q - l.length), ?_, fun j hj => ?_⟩, hgrow⟩
  · rw [List.length_append]
    rw [← flat_app] at hrow'
    obtain ⟨a2, c2, rfl, g1, g2, g3⟩ := owns_sl hrow' (fun i hi => by
      by_cases h : i < l.length
      · rw [if_pos h]; exact hDl i h
      · rw [if_neg h]; exact hCl _ (by omega))
    refine ⟨a2, c2, rfl, g1, g2, fun h0 => ?_⟩
    obtain ⟨b2, o2, rfl, _, g5, g6⟩ := g3 h0
    refine ⟨b2, o2, rfl, ?_, g5, g6⟩
    rcases hmv with h | ⟨k, hk, hl⟩
    · exact .inl (hok b2 h.symm)
    · have : some b2 = some k := hk
      injection this with this
      subst this
      exact .inr (.inr hl)
  · by_cases e : j < l.length
    · simp only [if_pos e, List.getElem_append_left e]
      have g1 := T.keep (hD j e) hgrow.size (fun k hk hl => hgrow.block k hl hk.2)
      exact T.wide g1 (fun k hk _ => .inl hk.1)
    · have hj2 : j - l.length < r.length := by simp at hj; omega
      simp only [if_neg e, List.getElem_append_right (Nat.le_of_not_lt e)]
      have g1 := T.keep (hC _ hj2) hgrow.size (fun k hk hl => hgrow.block k hl (fun e => hap k e.symm hk))
      exact T.wide g1 (fun k hk _ => .inr (.inl hk))
/-- .. as one operation of a region -/
theorem oper_joinX {α : Type} (T : Kind α) {w : World} {o : Oper} {a : Act} {K : Act → World → Prop} {Q : Exit → Act → World → Prop} (s x : Operand) (t : TypeId)
    (ho : o.op = .call { callee := .builtin .append, args := #[s, x], argTypes := #[t, t] }) (ht : Tryd.prog.underlying t = some (.slice T.ty)) {ok okr : Nat → Prop} {v u : Value} {l r : List α} (hs : a.eval s = v) (hx : a.eval x = u) (hown : OwnX T ok w v l) (hr : HRow T okr w u r) (hne : r ≠ [])
    (hap : ∀ k, v.ownBlock = some k → ¬ okr k) (hM : (l.length + r.length) * T.bytes ≤ 140737488355328) (hm : l.length + r.length ≤ maxLen)
    (h : ∀ v' w', HRow T (fun k => ok k ∨ okr k ∨ w.heap.size ≤ k) w' v' (l ++ r) → w.grownBy w' v.ownBlock → K (a.put o.dst v') w') :
    Oper.wp Tryd.prog o a w K Q := by
  obtain ⟨v', w', hrun, h2, h3⟩ := run_joinX T t o.type ht hown hr hne hap hM hm
  unfold Oper.wp execOp
  simp only [ho, resolve, invoke, builtin, Sem.run_bind, Sem.run_pure, Result.andThen_ok, List.map_toArray, List.map_cons, List.map_nil, hs, hx, hrun]
  exact h v' w' h2 h3

theorem node_place {I : Inp} {n : Nat} {v : Nd} {m : Nat} (h : Ps.node I n = .ok v m) : v.place = ((I.pk n).place : Int) := by
  unfold Ps.node at h
  obtain ⟨_, _, _, h⟩ := bind_ok h
  obtain ⟨_, _, _, h⟩ := bind_ok h
  obtain ⟨_, _, _, h⟩ := bind_ok h
  obtain ⟨_, _, _, h⟩ := bind_ok h
  obtain ⟨_, _, _, h⟩ := bind_ok h
  obtain ⟨_, _, _, h⟩ := bind_ok h
  obtain ⟨_, _, _, h⟩ := bind_ok h
  obtain ⟨_, _, _, h⟩ := bind_ok h
  obtain ⟨_, _, _, h⟩ := bind_ok h
  obtain ⟨_, _, _, h⟩ := bind_ok h
  obtain ⟨_, _, _, h⟩ := bind_ok h
  cases h
  rfl
theorem nodes_acc (I : Inp) : ∀ (f : Nat) (acc : List Nd) (n : Nat) (v : List Nd) (m : Nat), Ps.nodes I f acc n = .ok v m → ∃ l, v = acc ++ l := by
  intro f
  induction f with
  | zero =>
    intro acc n v m h
    unfold Ps.nodes at h
    split at h
    · cases h; exact ⟨[], by simp⟩
    · split at h <;> cases h
  | succ f ih =>
    intro acc n v m h
    unfold Ps.nodes at h
    split at h
    · cases h; exact ⟨[], by simp⟩
    · obtain ⟨x, n1, e1, e2⟩ := bind_ok h
      obtain ⟨l, hl⟩ := ih _ _ _ _ e2
      exact ⟨x :: l, by rw [hl]; simp⟩
/-- where the first node stands -/
theorem first_place (t : List UInt8) (h : (parseT t).2.1 = 0) : ∀ (h0 : 0 < (parseT t).1.length), 0 ≤ ((parseT t).1[0]).place ∧ ((parseT t).1[0]).place ≤ t.length := by
  have hs : (Tk.scan t).2.1 = 0 := by
    apply Classical.byContradiction
    intro hc
    rw [parseT_fault _ hc] at h
    exact hc h
  intro h0
  rcases parseT_ok t hs with ⟨P, m, e, e2⟩ | ⟨c, p, e, e2, h4⟩
  · have e3 := e
    unfold Ps.program at e3
    obtain ⟨x, n1, e4, e5⟩ := bind_ok e3
    obtain ⟨l, hl⟩ := nodes_acc _ _ _ _ _ _ e5
    have hp := node_place e4
    have hle := (rel_self t hs).le 0
    have hP : (parseT t).1 = x :: l := by rw [e2, hl]; rfl
    have hx : (parseT t).1[0] = x := by simp only [hP]; rfl
    rw [hx, hp]
    have hle : ((⟨(Tk.scan t).1, t.length⟩ : Inp).pk 0).place ≤ t.length := hle
    omega
  · rw [e2] at h
    simp at h
    omega

theorem qeq_sh (d : Nat) (q : Eqn) : qeq (Eqn.sh d q) q = true := qeq_refl q
theorem neq_sh (d : Nat) (x : Nd) : neq (Nd.sh d x) x = true := by
  have h := neq_refl x
  have he : ∀ l : List Eqn, eqL qeq (l.map (Eqn.sh d)) l = true := by
    intro l
    induction l with
    | nil => rfl
    | cons q l ih => simp [eqL, ih, qeq_sh]
  unfold neq at h ⊢
  simp only [Bool.and_eq_true] at h ⊢
  exact ⟨h.1, h.2.1, h.2.2.1, h.2.2.2.1, h.2.2.2.2.1, he x.eqs⟩
/-- the same but for places -/
theorem same_joined (d : Nat) (P Q : List Nd) : eqL neq (P ++ Q.map (Nd.sh d)) (P ++ Q) = true := by
  induction P with
  | nil =>
    induction Q with
    | nil => rfl
    | cons q l ih => simpa [eqL, neq_sh] using ih
  | cons x l ih => simpa [eqL, neq_refl] using ih

end Go.Proofs.YtmgaeapckfdbpaaDoor
