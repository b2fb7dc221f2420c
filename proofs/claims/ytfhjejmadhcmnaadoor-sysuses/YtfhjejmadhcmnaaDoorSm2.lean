
/-
  DERIVED. THE WALKS of the comparisons of sizes.
-/
import Derived.Test.YtfhjejmadhcmnaaDoorSm1
import Derived.Deep.RegionWith
namespace Go.Proofs.YtfhjejmadhcmnaaDoor
open Go.RowKit Go.IntWalk
set_option linter.unusedVariables false
set_option linter.unusedSimpArgs false
set_option maxRecDepth 100000

theorem HSizes.at {ok : Nat → Prop} {w : World} {v : Value} {l : List (List Tm)} (h : HSizes ok w v l) :
    ∃ ao cap, v = .slice ao l.length cap ∧ l.length ≤ cap ∧ cap ≤ maxLen ∧ ∀ i (h : i < l.length), ∃ b o au nu cu, ao = some ⟨b, o, none⟩ ∧ b < w.heap.size ∧ w.cell? ⟨b, o + i, none⟩ = some (.slice au nu cu) ∧ HTerms ok w (.slice au nu cu) l[i] := by
  obtain ⟨C, ⟨ao, cap, hv, h1, h2, h3⟩, hC⟩ := h
  refine ⟨ao, cap, hv, h1, h2, fun i hi => ?_⟩
  obtain ⟨b, o, ha, hob, hb, hc⟩ := h3 (by omega)
  have := (hc i hi).2 0 (by decide)
  obtain ⟨u, hu, ht⟩ := hC i hi
  rw [hu] at this
  have ht0 := ht
  obtain ⟨_, ⟨au, cu, rfl, _⟩, _⟩ := ht0
  exact ⟨b, o, au, _, cu, ha, hb, by simpa using this, ht⟩
theorem HTerms.under {ok : Nat → Prop} {w w' : World} {v : Value} {l : List Tm} (h : HTerms ok w v l) (a : Below w.heap.size w w') : HTerms ok w' v l := h.keep a.size fun i _ hl => a.block i hl
theorem HSizes.under {ok : Nat → Prop} {w w' : World} {v : Value} {l : List (List Tm)} (h : HSizes ok w v l) (a : Below w.heap.size w w') : HSizes ok w' v l := h.keep a.size fun i _ hl => a.block i hl
theorem HNames.under {ok : Nat → Prop} {w w' : World} {v : Value} {l : List ByteArray} (h : HNames ok w v l) (a : Below w.heap.size w w') : HNames ok w' v l := h.keep a.size fun i _ hl => a.block i hl
theorem below_of_drew {B : Nat} {w w' : World} (h : Below B w.drew w') : Below B w w' := ⟨h.os, h.tape, h.output, h.size, h.block⟩

end Go.Proofs.YtfhjejmadhcmnaaDoor
