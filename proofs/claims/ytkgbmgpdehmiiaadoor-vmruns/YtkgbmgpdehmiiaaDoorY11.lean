import Derived.Test.YtkgbmgpdehmiiaaDoorY10
import Derived.WalkKit
import Derived.WalkSpells
import Derived.IntWalk
import Derived.Deep.Cut
import Derived.Deep.LoopGhost
import Derived.Laws.Cover1
import Derived.Lib.Hide
set_option linter.unusedVariables false
set_option linter.unusedSimpArgs false
set_option maxHeartbeats 64000000
set_option maxRecDepth 100000
namespace Go.Proofs.YtkgbmgpdehmiiaaDoor
open Go.Shelf Go.RowKit Go.Lib Go.IntWalk
set_option linter.unusedVariables false
set_option linter.unusedSimpArgs false
def ieq (x y : Int) : Bool := x == y
theorem eqL_ieq : ∀ (l r : List Int), eqL ieq l r = true ↔ l = r
  | [], [] => by simp [eqL]
  | [], y :: r => by simp [eqL]
  | x :: l, [] => by simp [eqL]
  | x :: l, y :: r => by simp [eqL, ieq, eqL_ieq l r]
set_option maxHeartbeats 2000000 in
theorem sameInts_any {ok ok' : Nat → Prop} {w : World} {v u : Value} {l r : List Int} (hl : HInts ok w v l) (hr : HInts ok' w u r) :
    Calls Tryd.prog 33 #[v, u] w fun e w' => e = .returned (.bool (eqL ieq l r)) ∧ ∃ m, w' = w.drewN m := by
  obtain ⟨ao, cap, rfl, hc1, hc2, hat⟩ := hl.at
  obtain ⟨ao', cap', rfl, hd1, hd2, hat'⟩ := hr.at
  unfold maxLen at hc2 hd2
  obtain ⟨R, hR⟩ : ∃ R, R = eqL ieq l r := ⟨_, rfl⟩
  rw [← hR]
  have HR := hide hR
  clear hR hl hr
  obtain ⟨n, hn⟩ : ∃ n, n = l.length := ⟨_, rfl⟩
  obtain ⟨m, hm⟩ : ∃ m, m = r.length := ⟨_, rfl⟩
  rw [← hn] at hc1 ⊢
  rw [← hm] at hd1 ⊢
  have HN := hide hn
  have HM := hide hm
  by_cases hlen : n = m
  · subst hlen
    have hq : ((n : Int) != (n : Int)) = false := by simp
    clear hn hm
    go_enter Tryd.func33, Tryd.ntmps33
    go_wp2
    go_loopg [5] n (fun k v wr => ∃ i d, i ≤ n ∧ k = n - i ∧ v = .int .i64 (i : Nat) ∧ Hid (∀ j (h : j < l.length) (h' : j < r.length), j < i → ieq l[j] r[j] = true) ∧ wr = w.drewN d)
    case atStart => exact ⟨0, 0, Nat.zero_le _, rfl, rfl, fun j _ _ h => absurd h (Nat.not_lt_zero _), rfl⟩
    case round =>
      obtain ⟨i, d, hi, rfl, rfl, H, hW⟩ := hrel
      have HW := hide hW
      clear hW
      by_cases hlt : i < n
      · have hil : i < l.length := by have := HN.out; omega
        have hir : i < r.length := by have := HM.out; omega
        obtain ⟨b, o, rfl, hb, hc⟩ := hat i hil
        obtain ⟨b', o', rfl, hb', hc'⟩ := hat' i hir
        have e1 : wr.cell? ⟨b, o + i, none⟩ = some (.int .i64 l[i]) := by rw [HW.out]; exact hc
        have e2 : wr.cell? ⟨b', o' + i, none⟩ = some (.int .i64 r[i]) := by rw [HW.out]; exact hc'
        obtain ⟨x, hx⟩ : ∃ x, x = l[i] := ⟨_, rfl⟩
        obtain ⟨y, hy⟩ : ∃ y, y = r[i] := ⟨_, rfl⟩
        rw [← hx] at e1
        rw [← hy] at e2
        have HX := hide hx
        have HY := hide hy
        clear hc hc' hx hy
        clear hat hat'
        cases h0 : (x == y)
        · have hbad : ieq l[i] r[i] = false := by rw [← HX.out, ← HY.out]; exact h0
          have h1 : (x != y) = true := by simp [bne, h0]
          have HBAD := hide hbad
          clear hbad
          go_wp2_with fail
          go_quiet (fail)
          go_wp2
          go_ret
          exact ⟨ret_bool (by rw [HR.out, eqL_bad i hil hir HBAD.out]), _, by rw [HW.out, World.drewN_drewN]⟩
        · have hgood : ieq l[i] r[i] = true := by rw [← HX.out, ← HY.out]; exact h0
          have h1 : (x != y) = false := by simp [bne, h0]
          have HGOOD := hide hgood
          clear hgood
          go_wp2_with fail
          go_quiet (fail)
          go_wp2
          go_roundg (n - (i + 1))
          case measure => omega
          case rel => exact ⟨i + 1, _, by omega, rfl, by go_num, hide (fun j h h' hj => by
            rcases Nat.lt_or_eq_of_le (Nat.le_of_lt_succ hj) with h2 | h2
            · exact H.out j h h' h2
            · subst h2; exact HGOOD.out), by rw [HW.out, World.drewN_drewN]⟩
      · have hie : i = n := by omega
        have hge : ¬ (i : Int) < (n : Int) := by omega
        go_wp2
        go_ret
        refine ⟨ret_bool ?_, d, HW.out⟩
        rw [HR.out]
        exact (eqL_all (by rw [← HN.out, ← HM.out]) (fun j h h' => H.out j h h' (by have := HN.out; omega))).symm
  · have hq : ((n : Int) != (m : Int)) = true := by simp; omega
    clear hn hm
    go_enter Tryd.func33, Tryd.ntmps33
    go_wp2
    go_ret
    exact ⟨ret_bool (by rw [HR.out, eqL_len (by rw [← HN.out, ← HM.out]; exact hlen)]), 0, rfl⟩
theorem blk_ints {w : World} {g : Nat} {L : List Int} {t : TypeId} (h : w.heap[g]? = some (.cells (L.map (Value.int .i64)).toArray t (0, 0))) (hm : L.length ≤ maxLen) : HInts (fun i => g = i) w (.slice (some ⟨g, 0, none⟩) L.length L.length) L := by
  refine ⟨fun i => [.int .i64 (L[i]!)], ⟨_, _, rfl, Nat.le_refl _, hm, fun h0 => ⟨g, 0, rfl, rfl, lt_of h, fun i hi => ⟨rfl, fun j hj => ?_⟩⟩⟩, fun i hi => by simp [hi]⟩
  obtain rfl : j = 0 := by omega
  have := cell_of h i
  simp only [Nat.zero_add, Nat.mul_one, Nat.add_zero]
  rw [this]
  simp [hi]
end Go.Proofs.YtkgbmgpdehmiiaaDoor
namespace Go.Proofs.YtkgbmgpdehmiiaaDoor
open Go.RowKit Go.IntWalk
set_option linter.unusedVariables false
set_option linter.unusedSimpArgs false
namespace Lo
/-- the cells behind so many rows -/
def after (L : Lp) : List (List Int) → List Int → List Int
  | [], M => M
  | r :: R, M => after L R (if r.length = L.P.length then row L M r else M)
end Lo
end Go.Proofs.YtkgbmgpdehmiiaaDoor
namespace Go.Proofs.YtkgbmgpdehmiiaaDoor
open Go.RowKit Go.IntWalk
set_option linter.unusedVariables false
set_option linter.unusedSimpArgs false
/-- code that is run, in memory: block gb; its cells lie in block cb -/
def GAt (w : World) (gb cb nc cc : Nat) (v0 v1 v2 v3 v4 v5 v6 : Value) (st : Int) : Prop := w.heap[gb]? = some (.cells #[v0, v1, v2, v3, v4, v5, v6, .slice (some ⟨cb, 0, none⟩) nc cc, .int .i64 st] 46 (0, 0))
theorem GAt.keep {w w' : World} {gb cb nc cc : Nat} {v0 v1 v2 v3 v4 v5 v6 : Value} {st : Int} (h : GAt w gb cb nc cc v0 v1 v2 v3 v4 v5 v6 st) (hk : w'.heap[gb]? = w.heap[gb]?) : GAt w' gb cb nc cc v0 v1 v2 v3 v4 v5 v6 st := hk.trans h
end Go.Proofs.YtkgbmgpdehmiiaaDoor
namespace Go.Proofs.YtkgbmgpdehmiiaaDoor
open Go.RowKit Go.IntWalk
set_option linter.unusedVariables false
set_option linter.unusedSimpArgs false
namespace Cd
def In.cs (i : In) : List Value := [.int .i64 i.op, .int .i64 i.k, .int .i64 i.r, .int .i64 i.a, .int .i64 i.b, .int .i64 i.n]
end Cd
theorem Tryd.infoIn : (Tryd.prog.info? 52).map (fun i => (i.zero, i.size, i.bytes)) = some (some (.agg #[.int .i64 0, .int .i64 0, .int .i64 0, .int .i64 0, .int .i64 0, .int .i64 0]), 6, 48) := by kernel_rfl
def kIn : Kind Cd.In where
  ty := 52
  k := 6
  bytes := 48
  zero := .agg #[.int .i64 0, .int .i64 0, .int .i64 0, .int .i64 0, .int .i64 0, .int .i64 0]
  E := fun _ _ cs p => cs = p.cs
  pos := by decide
  zs := rfl
  info := Tryd.infoIn
  len := by rintro _ _ _ _ rfl; rfl
  one := by rintro _ _ _ _ rfl; intro u hu; simp [Cd.In.cs] at hu; rcases hu with rfl | rfl | rfl | rfl | rfl | rfl <;> rfl
  keep := by rintro _ _ _ _ _ rfl _ _; rfl
  wide := by rintro _ _ _ _ _ rfl _; rfl
def InAt (w : World) (b o : Nat) (i : Cd.In) : Prop :=
  w.cell? ⟨b, o, none⟩ = some (.int .i64 i.op) ∧ w.cell? ⟨b, o + 1, none⟩ = some (.int .i64 i.k) ∧ w.cell? ⟨b, o + 2, none⟩ = some (.int .i64 i.r) ∧ w.cell? ⟨b, o + 3, none⟩ = some (.int .i64 i.a) ∧ w.cell? ⟨b, o + 4, none⟩ = some (.int .i64 i.b) ∧ w.cell? ⟨b, o + 5, none⟩ = some (.int .i64 i.n)
def HIns (ok : Nat → Prop) (w : World) (v : Value) (l : List Cd.In) : Prop := HRow kIn ok w v l
theorem HIns.at {ok : Nat → Prop} {w : World} {v : Value} {l : List Cd.In} (h : HIns ok w v l) :
    ∃ ao cap, v = .slice ao l.length cap ∧ l.length ≤ cap ∧ cap ≤ maxLen ∧ ∀ i (h : i < l.length), ∃ b o, ao = some ⟨b, o, none⟩ ∧ b < w.heap.size ∧ InAt w b (o + i * 6) l[i] := by
  obtain ⟨C, ⟨ao, cap, hv, h1, h2, h3⟩, hC⟩ := h
  refine ⟨ao, cap, hv, h1, h2, fun i hi => ?_⟩
  obtain ⟨b, o, ha, hob, hb, hc⟩ := h3 (by omega)
  have e := hC i hi
  have e2 : C i = (l[i]).cs := e
  have hcc := (hc i hi).2
  rw [e2] at hcc
  refine ⟨b, o, ha, hb, ?_, ?_, ?_, ?_, ?_, ?_⟩
  · have := hcc 0 (by decide); simp only [Cd.In.cs, kIn, Nat.add_zero, List.getElem?_cons_zero, List.getElem?_cons_succ] at this; exact this
  · have := hcc 1 (by decide); simp only [Cd.In.cs, kIn, Nat.add_zero, List.getElem?_cons_zero, List.getElem?_cons_succ] at this; exact this
  · have := hcc 2 (by decide); simp only [Cd.In.cs, kIn, Nat.add_zero, List.getElem?_cons_zero, List.getElem?_cons_succ] at this; exact this
  · have := hcc 3 (by decide); simp only [Cd.In.cs, kIn, Nat.add_zero, List.getElem?_cons_zero, List.getElem?_cons_succ] at this; exact this
  · have := hcc 4 (by decide); simp only [Cd.In.cs, kIn, Nat.add_zero, List.getElem?_cons_zero, List.getElem?_cons_succ] at this; exact this
  · have := hcc 5 (by decide); simp only [Cd.In.cs, kIn, Nat.add_zero, List.getElem?_cons_zero, List.getElem?_cons_succ] at this; exact this
theorem HIns.keep {ok : Nat → Prop} {w w' : World} {v : Value} {l : List Cd.In} (h : HIns ok w v l) (h1 : w.heap.size ≤ w'.heap.size) (h2 : ∀ i, ok i → i < w.heap.size → w'.heap[i]? = w.heap[i]?) : HIns ok w' v l := HRow.keep h h1 h2
theorem HIns.under {ok : Nat → Prop} {w w' : World} {v : Value} {l : List Cd.In} (h : HIns ok w v l) (b : Below w.heap.size w w') : HIns ok w' v l := h.keep b.size fun i _ hl => b.block i hl
theorem HIns.wide {ok ok' : Nat → Prop} {w : World} {v : Value} {l : List Cd.In} (h : HIns ok w v l) (hk : ∀ i, ok i → i < w.heap.size → ok' i) : HIns ok' w v l := HRow.wide h hk
/-- an image in memory -/
structure HIm (ok : Nat → Prop) (w : World) (aP aB aG aL : Option Addr) (cP cB cG cL : Nat) (m : Cd.Im) : Prop where
  P : HInts ok w (.slice aP m.P.length cP) m.P
  B : HInts ok w (.slice aB m.B.length cB) m.B
  G : HInts ok w (.slice aG m.G.length cG) m.G
  L : HIns ok w (.slice aL m.l.length cL) m.l
  W : ∀ i ∈ m.l, I64 i.b
theorem HIm.keep {ok : Nat → Prop} {w w' : World} {aP aB aG aL : Option Addr} {cP cB cG cL : Nat} {m : Cd.Im} (h : HIm ok w aP aB aG aL cP cB cG cL m) (h1 : w.heap.size ≤ w'.heap.size) (h2 : ∀ i, ok i → i < w.heap.size → w'.heap[i]? = w.heap[i]?) : HIm ok w' aP aB aG aL cP cB cG cL m := ⟨h.P.keep h1 h2, h.B.keep h1 h2, h.G.keep h1 h2, h.L.keep h1 h2, h.W⟩
theorem HIm.under {ok : Nat → Prop} {w w' : World} {aP aB aG aL : Option Addr} {cP cB cG cL : Nat} {m : Cd.Im} (h : HIm ok w aP aB aG aL cP cB cG cL m) (b : Below w.heap.size w w') : HIm ok w' aP aB aG aL cP cB cG cL m := h.keep b.size fun i _ hl => b.block i hl
theorem HIm.wide {ok ok' : Nat → Prop} {w : World} {aP aB aG aL : Option Addr} {cP cB cG cL : Nat} {m : Cd.Im} (h : HIm ok w aP aB aG aL cP cB cG cL m) (hk : ∀ i, ok i → i < w.heap.size → ok' i) : HIm ok' w aP aB aG aL cP cB cG cL m := ⟨h.P.wide hk, h.B.wide hk, h.G.wide hk, h.L.wide hk, h.W⟩
end Go.Proofs.YtkgbmgpdehmiiaaDoor
