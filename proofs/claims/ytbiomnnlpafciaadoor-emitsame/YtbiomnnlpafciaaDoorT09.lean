import Derived.Test.YtbiomnnlpafciaaDoorT06
import Derived.WalkKit
import Derived.WalkSpells
import Derived.IntWalk
import Derived.Deep.Cut
import Derived.Deep.LoopGhost
import Derived.Laws.Cover1
import Derived.Lib.Hide
import Derived.Ground.NamesProg
import Derived.Laws.Externs
import Derived.Lib.MakeNoZero
import Derived.Shelf.Lay
set_option linter.unusedVariables false
set_option linter.unusedSimpArgs false
set_option maxHeartbeats 64000000
set_option maxRecDepth 100000
namespace Go.Proofs.YtbiomnnlpafciaaDoor
open Go.Shelf Go.RowKit Go.Lib Go.IntWalk
set_option linter.unusedVariables false
set_option linter.unusedSimpArgs false
theorem blk_ints {w : World} {g : Nat} {L : List Int} {t : TypeId} (h : w.heap[g]? = some (.cells (L.map (Value.int .i64)).toArray t (0, 0))) (hm : L.length ≤ maxLen) : HInts (fun i => g = i) w (.slice (some ⟨g, 0, none⟩) L.length L.length) L := by
  refine ⟨fun i => [.int .i64 (L[i]!)], ⟨_, _, rfl, Nat.le_refl _, hm, fun h0 => ⟨g, 0, rfl, rfl, lt_of h, fun i hi => ⟨rfl, fun j hj => ?_⟩⟩⟩, fun i hi => by simp [hi]⟩
  obtain rfl : j = 0 := by omega
  have := cell_of h i
  simp only [Nat.zero_add, Nat.mul_one, Nat.add_zero]
  rw [this]
  simp [hi]
end Go.Proofs.YtbiomnnlpafciaaDoor
namespace Go.Proofs.YtbiomnnlpafciaaDoor
open Go.RowKit Go.IntWalk
set_option linter.unusedVariables false
set_option linter.unusedSimpArgs false
namespace Cd
def In.cs (i : In) : List Value := [.int .i64 i.op, .int .i64 i.k, .int .i64 i.r, .int .i64 i.a, .int .i64 i.b, .int .i64 i.n]
end Cd
theorem Tryd.infoIn : (Tryd.prog.info? 72).map (fun i => (i.zero, i.size, i.bytes)) = some (some (.agg #[.int .i64 0, .int .i64 0, .int .i64 0, .int .i64 0, .int .i64 0, .int .i64 0]), 6, 48) := by kernel_rfl
def kIn : Kind Cd.In where
  ty := 72
  k := 6
  bytes := 48
  zero := .agg #[.int .i64 0, .int .i64 0, .int .i64 0, .int .i64 0, .int .i64 0, .int .i64 0]
  E := fun _ _ cs p => cs = p.cs
  pos := by decide
  zs := rfl
  info := Tryd.infoIn
  len := by rintro _ _ _ _ rfl; rfl
  one := by rintro _ _ _ _ rfl; intro u hu; simp [Cd.In.cs] at hu; rcases hu with rfl | rfl | rfl | rfl | rfl | rfl <;> rfl
  keep := by rintro _ _ _ _ _ rfl _ _; rfl
  wide := by rintro _ _ _ _ _ rfl _; rfl
def InAt (w : World) (b o : Nat) (i : Cd.In) : Prop :=
  w.cell? ⟨b, o, none⟩ = some (.int .i64 i.op) ∧ w.cell? ⟨b, o + 1, none⟩ = some (.int .i64 i.k) ∧ w.cell? ⟨b, o + 2, none⟩ = some (.int .i64 i.r) ∧ w.cell? ⟨b, o + 3, none⟩ = some (.int .i64 i.a) ∧ w.cell? ⟨b, o + 4, none⟩ = some (.int .i64 i.b) ∧ w.cell? ⟨b, o + 5, none⟩ = some (.int .i64 i.n)
def HIns (ok : Nat → Prop) (w : World) (v : Value) (l : List Cd.In) : Prop := HRow kIn ok w v l
theorem HIns.at {ok : Nat → Prop} {w : World} {v : Value} {l : List Cd.In} (h : HIns ok w v l) :
    ∃ ao cap, v = .slice ao l.length cap ∧ l.length ≤ cap ∧ cap ≤ maxLen ∧ ∀ i (h : i < l.length), ∃ b o, ao = some ⟨b, o, none⟩ ∧ b < w.heap.size ∧ InAt w b (o + i * 6) l[i] := by
  obtain ⟨C, ⟨ao, cap, hv, h1, h2, h3⟩, hC⟩ := h
  refine ⟨ao, cap, hv, h1, h2, fun i hi => ?_⟩
  obtain ⟨b, o, ha, hob, hb, hc⟩ := h3 (by omega)
  have e := hC i hi
  have e2 : C i = (l[i]).cs := e
  have hcc := (hc i hi).2
  rw [e2] at hcc
  refine ⟨b, o, ha, hb, ?_, ?_, ?_, ?_, ?_, ?_⟩
  · have := hcc 0 (by decide); simp only [Cd.In.cs, kIn, Nat.add_zero, List.getElem?_cons_zero, List.getElem?_cons_succ] at this; exact this
  · have := hcc 1 (by decide); simp only [Cd.In.cs, kIn, Nat.add_zero, List.getElem?_cons_zero, List.getElem?_cons_succ] at this; exact this
  · have := hcc 2 (by decide); simp only [Cd.In.cs, kIn, Nat.add_zero, List.getElem?_cons_zero, List.getElem?_cons_succ] at this; exact this
  · have := hcc 3 (by decide); simp only [Cd.In.cs, kIn, Nat.add_zero, List.getElem?_cons_zero, List.getElem?_cons_succ] at this; exact this
  · have := hcc 4 (by decide); simp only [Cd.In.cs, kIn, Nat.add_zero, List.getElem?_cons_zero, List.getElem?_cons_succ] at this; exact this
  · have := hcc 5 (by decide); simp only [Cd.In.cs, kIn, Nat.add_zero, List.getElem?_cons_zero, List.getElem?_cons_succ] at this; exact this
theorem HIns.keep {ok : Nat → Prop} {w w' : World} {v : Value} {l : List Cd.In} (h : HIns ok w v l) (h1 : w.heap.size ≤ w'.heap.size) (h2 : ∀ i, ok i → i < w.heap.size → w'.heap[i]? = w.heap[i]?) : HIns ok w' v l := HRow.keep h h1 h2
theorem HIns.under {ok : Nat → Prop} {w w' : World} {v : Value} {l : List Cd.In} (h : HIns ok w v l) (b : Below w.heap.size w w') : HIns ok w' v l := h.keep b.size fun i _ hl => b.block i hl
theorem HIns.wide {ok ok' : Nat → Prop} {w : World} {v : Value} {l : List Cd.In} (h : HIns ok w v l) (hk : ∀ i, ok i → i < w.heap.size → ok' i) : HIns ok' w v l := HRow.wide h hk
/-- an image in memory -/
structure HIm (ok : Nat → Prop) (w : World) (aP aB aG aL : Option Addr) (cP cB cG cL : Nat) (m : Cd.Im) : Prop where
  P : HInts ok w (.slice aP m.P.length cP) m.P
  B : HInts ok w (.slice aB m.B.length cB) m.B
  G : HInts ok w (.slice aG m.G.length cG) m.G
  L : HIns ok w (.slice aL m.l.length cL) m.l
  W : ∀ i ∈ m.l, I64 i.b
theorem HIm.keep {ok : Nat → Prop} {w w' : World} {aP aB aG aL : Option Addr} {cP cB cG cL : Nat} {m : Cd.Im} (h : HIm ok w aP aB aG aL cP cB cG cL m) (h1 : w.heap.size ≤ w'.heap.size) (h2 : ∀ i, ok i → i < w.heap.size → w'.heap[i]? = w.heap[i]?) : HIm ok w' aP aB aG aL cP cB cG cL m := ⟨h.P.keep h1 h2, h.B.keep h1 h2, h.G.keep h1 h2, h.L.keep h1 h2, h.W⟩
theorem HIm.under {ok : Nat → Prop} {w w' : World} {aP aB aG aL : Option Addr} {cP cB cG cL : Nat} {m : Cd.Im} (h : HIm ok w aP aB aG aL cP cB cG cL m) (b : Below w.heap.size w w') : HIm ok w' aP aB aG aL cP cB cG cL m := h.keep b.size fun i _ hl => b.block i hl
theorem HIm.wide {ok ok' : Nat → Prop} {w : World} {aP aB aG aL : Option Addr} {cP cB cG cL : Nat} {m : Cd.Im} (h : HIm ok w aP aB aG aL cP cB cG cL m) (hk : ∀ i, ok i → i < w.heap.size → ok' i) : HIm ok' w aP aB aG aL cP cB cG cL m := ⟨h.P.wide hk, h.B.wide hk, h.G.wide hk, h.L.wide hk, h.W⟩
end Go.Proofs.YtbiomnnlpafciaaDoor
namespace Go.Proofs.YtbiomnnlpafciaaDoor
open Go.RowKit Go.IntWalk
set_option linter.unusedVariables false
set_option linter.unusedSimpArgs false
theorem ownX_of {α : Type} {T : Kind α} {B : Nat} {w : World} {v : Value} {l : List α} (h : OwnL T B w v l) : OwnX T (fun i => B ≤ i ∧ i < w.heap.size) w v l := by
  have hlt := h.lt
  obtain ⟨D, ⟨h1, h2⟩, h3⟩ := h
  refine ⟨D, ⟨h1, ?_⟩, fun k hk => hlt k hk, fun j hj => T.wide (h3 j hj) fun i hi hl => ⟨⟨hi.1, hl⟩, hi.2⟩⟩
  rcases h2 with h | ⟨g, cap, cur, e1, e2, e3⟩
  · exact .inl h
  · exact .inr ⟨g, cap, cur, e1, Nat.zero_le _, e3⟩
theorem ownL_of {α : Type} {T : Kind α} {ok : Nat → Prop} {B : Nat} {w : World} {v : Value} {l : List α} (h : OwnX T ok w v l) (hk : ∀ i, ok i → B ≤ i) : OwnL T B w v l := by
  obtain ⟨D, ⟨h1, h2⟩, h3, h4⟩ := h
  refine ⟨D, ⟨h1, ?_⟩, fun j hj => T.wide (h4 j hj) fun i hi _ => ⟨hk i hi.1, hi.2⟩⟩
  rcases h2 with h | ⟨g, cap, cur, e1, e2, e3⟩
  · exact .inl h
  · refine .inr ⟨g, cap, cur, e1, hk g (h3 g ?_), e3⟩
    rw [e1]
    rfl
end Go.Proofs.YtbiomnnlpafciaaDoor
namespace Go.Proofs.YtbiomnnlpafciaaDoor
open Go.RowKit Go.IntWalk
set_option linter.unusedVariables false
set_option linter.unusedSimpArgs false
theorem flat_appK (C D : Nat → List Value) (n : Nat) : ∀ m, flat (fun q => if q < n then C q else D (q - n)) (n + m) = flat C n ++ flat D m
  | 0 => by
    rw [Nat.add_zero, flat_congr (D := C) n (fun q hq => by rw [if_pos hq])]
    simp [flat]
  | m + 1 => by
    rw [← Nat.add_assoc, flat, flat_appK C D n m, flat, if_neg (by omega), List.append_assoc]
    congr 3
    omega
/-- a whole row behind a row of the call's own -/
theorem run_joinO {α : Type} (T : Kind α) {w : World} (t ty : TypeId) (ht : Tryd.prog.underlying t = some (.slice T.ty)) {ok okr : Nat → Prop} {v u : Value} {l r : List α} (hown : OwnX T ok w v l) (hr : HRow T okr w u r)
    (hap : ∀ k, v.ownBlock = some k → ¬ okr k) (hM : (l.length + r.length) * T.bytes ≤ 140737488355328) (hm : l.length + r.length ≤ maxLen) :
    ∃ v' w', (Builtin.append_ #[t, t] ty #[v, u]).run Tryd.prog w = .ok v' w' ∧ OwnX T (fun k => ok k ∨ okr k ∨ w.heap.size ≤ k) w' v' (l ++ r) ∧ w.grownBy w' v.ownBlock ∧ (v'.ownBlock = v.ownBlock ∨ ∃ k, v'.ownBlock = some k ∧ w.heap.size ≤ k) := by
  obtain ⟨i0, hi, hz0, hz1, hz2⟩ := info_parts T.info
  have hown0 := hown
  obtain ⟨D, hrow, hok, hD⟩ := hown
  obtain ⟨C, hS, hC⟩ := hr
  have hS0 := hS
  obtain ⟨ao, cap, rfl, h2, h3, h4⟩ := hS
  have hCl : ∀ i, i < r.length → (C i).length = T.k := fun i hi => T.len (hC i hi)
  have hDl : ∀ i, i < l.length → (D i).length = T.k := fun i hi => T.len (hD i hi)
  cases ao with
  | none =>
    have hr0 : r = [] := by
      cases r with
      | nil => rfl
      | cons x r =>
        obtain ⟨b, o, e, _⟩ := h4 (by simp)
        cases e
    subst hr0
    have hrun : (Builtin.append_ #[t, t] ty #[v, .slice none 0 cap]).run Tryd.prog w = .ok v w := by
      rcases hrow.2 with ⟨rfl, h0⟩ | ⟨g, c, cur, rfl, _, _, hnc, _⟩
      · simp [Builtin.append_, run_underlying ht, sizeOf, typeInfo, hi, Builtin.lenOf, Builtin.firstCells]
      · simp [Builtin.append_, run_underlying ht, sizeOf, typeInfo, hi, Builtin.lenOf, Builtin.firstCells, hnc, storeCells]
    refine ⟨v, w, hrun, ?_, ⟨rfl, rfl, rfl, Nat.le_refl _, fun _ _ _ => rfl⟩, .inl rfl⟩
    rw [List.append_nil]
    exact hown0.wide (fun i hi _ => .inl hi)
  | some a =>
    have hone : ∀ x ∈ flat C r.length, x.oneCell' = true := fun x hx => by
      obtain ⟨i, hi, hx⟩ := flat_mem _ _ hx
      exact T.one (hC i hi) x hx
    have hnews : ∀ j u, (flat C r.length)[j]? = some u → w.cell? (a.add j) = some u := by
      by_cases h0 : 0 < r.length
      · obtain ⟨b, o, e, hb, hbl, hcells⟩ := h4 h0
        injection e with e
        subst e
        exact Sl.news T.pos hS0
      · intro j u hj
        have e : r.length = 0 := by omega
        rw [e] at hj
        simp [flat] at hj
    obtain ⟨v', w', hrun, hrow', hgrow, hmv⟩ := run_push w 0 t ty T.ty i0 T.zero T.k T.bytes ht hi hz0 hz1 hz2 T.zs T.pos v l.length _ hrow a r.length cap (flat C r.length) (flat_len _ hCl) hnews hone hm hM (Nat.zero_le _)
    have hnv : ∀ i, i < w.heap.size → some i ≠ v.ownBlock → some i ≠ v'.ownBlock := by
      intro i hi hne
      rcases hmv with h | ⟨k, hk, hl⟩
      · rw [h]; exact hne
      · rw [hk]
        intro e
        injection e with e
        omega
    refine ⟨v', w', hrun, ⟨fun q => if q < l.length then D q else C (q - l.length), ?_, fun k hk => ?_, fun j hj => ?_⟩, hgrow, hmv⟩
    · rw [List.length_append, flat_appK]
      exact hrow'
    · rcases hmv with h | ⟨k', hk', hl⟩
      · exact .inl (hok k (h ▸ hk))
      · rw [hk] at hk'
        injection hk' with e
        subst e
        exact .inr (.inr hl)
    · by_cases e : j < l.length
      · simp only [if_pos e, List.getElem_append_left e]
        have g0 := T.wide (ok' := fun k => (ok k ∧ some k ≠ v.ownBlock) ∧ k < w.heap.size) (hD j e) (fun k hk hl => ⟨hk, hl⟩)
        have g1 := T.keep g0 hgrow.size (fun k hk hl => hgrow.block k hl hk.1.2)
        exact T.wide g1 (fun k hk _ => ⟨.inl hk.1.1, hnv k hk.2 hk.1.2⟩)
      · have hj2 : j - l.length < r.length := by simp at hj; omega
        simp only [if_neg e, List.getElem_append_right (Nat.le_of_not_lt e)]
        have g0 := T.wide (ok' := fun k => okr k ∧ k < w.heap.size) (hC _ hj2) (fun k hk hl => ⟨hk, hl⟩)
        have g1 := T.keep g0 hgrow.size (fun k hk hl => hgrow.block k hl (fun e => hap k e.symm hk.1))
        exact T.wide g1 (fun k hk _ => ⟨.inr (.inl hk.1), hnv k hk.2 (fun e => hap k e.symm hk.1)⟩)
/-- append, its run being known -/
theorem wpList_joinO {w w' : World} {ops : Array Oper} {rest : List Oper} {o : Oper} {a : Act} {Q : Exit → Act → World → Prop} (hgd : o.guard = none) (s x : Operand) (t : TypeId) (ho : o.op = .call { callee := .builtin .append, args := #[s, x], argTypes := #[t, t] }) (v u v' : Value) (hs : a.eval s = v) (hx : a.eval x = u)
    (hr : (Builtin.append_ #[t, t] o.type #[v, u]).run Tryd.prog w = .ok v' w') (h : wpList Tryd.prog ops Q rest (a.put o.dst v') w') : wpList Tryd.prog ops Q (o :: rest) a w := by
  refine wpList_plain hgd fun _ hK => ?_
  unfold Oper.wp execOp
  simp only [ho, resolve, invoke, builtin, Sem.run_bind, Sem.run_pure, Result.andThen_ok, List.map_toArray, List.map_cons, List.map_nil, hs, hx, hr]
  exact hK _ _ h
end Go.Proofs.YtbiomnnlpafciaaDoor
