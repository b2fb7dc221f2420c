import Derived.Test.YtfipfdpohkafaaaDoorQ27
import Derived.Test.YtfipfdpohkafaaaDoorQ24
import Derived.WalkKit
import Derived.WalkSpells
import Derived.IntWalk
import Derived.Deep.Cut
import Derived.Deep.LoopGhost
import Derived.Laws.Cover1
import Derived.Lib.Hide
set_option linter.unusedVariables false
set_option linter.unusedSimpArgs false
set_option maxHeartbeats 64000000
set_option maxRecDepth 100000
namespace Go.Proofs.YtfipfdpohkafaaaDoor
open Go.RowKit Go.IntWalk
set_option linter.unusedVariables false
set_option linter.unusedSimpArgs false
namespace Cd
def In.cs (i : In) : List Value := [.int .i64 i.op, .int .i64 i.k, .int .i64 i.r, .int .i64 i.a, .int .i64 i.b, .int .i64 i.n]
end Cd
theorem Tryd.infoIn : (Tryd.prog.info? 35).map (fun i => (i.zero, i.size, i.bytes)) = some (some (.agg #[.int .i64 0, .int .i64 0, .int .i64 0, .int .i64 0, .int .i64 0, .int .i64 0]), 6, 48) := by kernel_rfl
def kIn : Kind Cd.In where
  ty := 35
  k := 6
  bytes := 48
  zero := .agg #[.int .i64 0, .int .i64 0, .int .i64 0, .int .i64 0, .int .i64 0, .int .i64 0]
  E := fun _ _ cs p => cs = p.cs
  pos := by decide
  zs := rfl
  info := Tryd.infoIn
  len := by rintro _ _ _ _ rfl; rfl
  one := by rintro _ _ _ _ rfl; intro u hu; simp [Cd.In.cs] at hu; rcases hu with rfl | rfl | rfl | rfl | rfl | rfl <;> rfl
  keep := by rintro _ _ _ _ _ rfl _ _; rfl
  wide := by rintro _ _ _ _ _ rfl _; rfl
def InAt (w : World) (b o : Nat) (i : Cd.In) : Prop :=
  w.cell? ⟨b, o, none⟩ = some (.int .i64 i.op) ∧ w.cell? ⟨b, o + 1, none⟩ = some (.int .i64 i.k) ∧ w.cell? ⟨b, o + 2, none⟩ = some (.int .i64 i.r) ∧ w.cell? ⟨b, o + 3, none⟩ = some (.int .i64 i.a) ∧ w.cell? ⟨b, o + 4, none⟩ = some (.int .i64 i.b) ∧ w.cell? ⟨b, o + 5, none⟩ = some (.int .i64 i.n)
def HIns (ok : Nat → Prop) (w : World) (v : Value) (l : List Cd.In) : Prop := HRow kIn ok w v l
theorem HIns.at {ok : Nat → Prop} {w : World} {v : Value} {l : List Cd.In} (h : HIns ok w v l) :
    ∃ ao cap, v = .slice ao l.length cap ∧ l.length ≤ cap ∧ cap ≤ maxLen ∧ ∀ i (h : i < l.length), ∃ b o, ao = some ⟨b, o, none⟩ ∧ b < w.heap.size ∧ InAt w b (o + i * 6) l[i] := by
  obtain ⟨C, ⟨ao, cap, hv, h1, h2, h3⟩, hC⟩ := h
  refine ⟨ao, cap, hv, h1, h2, fun i hi => ?_⟩
  obtain ⟨b, o, ha, hob, hb, hc⟩ := h3 (by omega)
  have e := hC i hi
  have e2 : C i = (l[i]).cs := e
  have hcc := (hc i hi).2
  rw [e2] at hcc
  refine ⟨b, o, ha, hb, ?_, ?_, ?_, ?_, ?_, ?_⟩
  · have := hcc 0 (by decide); simp only [Cd.In.cs, kIn, Nat.add_zero, List.getElem?_cons_zero, List.getElem?_cons_succ] at this; exact this
  · have := hcc 1 (by decide); simp only [Cd.In.cs, kIn, Nat.add_zero, List.getElem?_cons_zero, List.getElem?_cons_succ] at this; exact this
  · have := hcc 2 (by decide); simp only [Cd.In.cs, kIn, Nat.add_zero, List.getElem?_cons_zero, List.getElem?_cons_succ] at this; exact this
  · have := hcc 3 (by decide); simp only [Cd.In.cs, kIn, Nat.add_zero, List.getElem?_cons_zero, List.getElem?_cons_succ] at this; exact this
  · have := hcc 4 (by decide); simp only [Cd.In.cs, kIn, Nat.add_zero, List.getElem?_cons_zero, List.getElem?_cons_succ] at this; exact this
  · have := hcc 5 (by decide); simp only [Cd.In.cs, kIn, Nat.add_zero, List.getElem?_cons_zero, List.getElem?_cons_succ] at this; exact this
theorem HIns.keep {ok : Nat → Prop} {w w' : World} {v : Value} {l : List Cd.In} (h : HIns ok w v l) (h1 : w.heap.size ≤ w'.heap.size) (h2 : ∀ i, ok i → i < w.heap.size → w'.heap[i]? = w.heap[i]?) : HIns ok w' v l := HRow.keep h h1 h2
theorem HIns.under {ok : Nat → Prop} {w w' : World} {v : Value} {l : List Cd.In} (h : HIns ok w v l) (b : Below w.heap.size w w') : HIns ok w' v l := h.keep b.size fun i _ hl => b.block i hl
theorem HIns.wide {ok ok' : Nat → Prop} {w : World} {v : Value} {l : List Cd.In} (h : HIns ok w v l) (hk : ∀ i, ok i → i < w.heap.size → ok' i) : HIns ok' w v l := HRow.wide h hk
/-- an image in memory -/
structure HIm (ok : Nat → Prop) (w : World) (aP aB aG aL : Option Addr) (cP cB cG cL : Nat) (m : Cd.Im) : Prop where
  P : HInts ok w (.slice aP m.P.length cP) m.P
  B : HInts ok w (.slice aB m.B.length cB) m.B
  G : HInts ok w (.slice aG m.G.length cG) m.G
  L : HIns ok w (.slice aL m.l.length cL) m.l
  W : ∀ i ∈ m.l, I64 i.b
theorem HIm.keep {ok : Nat → Prop} {w w' : World} {aP aB aG aL : Option Addr} {cP cB cG cL : Nat} {m : Cd.Im} (h : HIm ok w aP aB aG aL cP cB cG cL m) (h1 : w.heap.size ≤ w'.heap.size) (h2 : ∀ i, ok i → i < w.heap.size → w'.heap[i]? = w.heap[i]?) : HIm ok w' aP aB aG aL cP cB cG cL m := ⟨h.P.keep h1 h2, h.B.keep h1 h2, h.G.keep h1 h2, h.L.keep h1 h2, h.W⟩
theorem HIm.wide {ok ok' : Nat → Prop} {w : World} {aP aB aG aL : Option Addr} {cP cB cG cL : Nat} {m : Cd.Im} (h : HIm ok w aP aB aG aL cP cB cG cL m) (hk : ∀ i, ok i → i < w.heap.size → ok' i) : HIm ok' w aP aB aG aL cP cB cG cL m := ⟨h.P.wide hk, h.B.wide hk, h.G.wide hk, h.L.wide hk, h.W⟩
end Go.Proofs.YtfipfdpohkafaaaDoor
