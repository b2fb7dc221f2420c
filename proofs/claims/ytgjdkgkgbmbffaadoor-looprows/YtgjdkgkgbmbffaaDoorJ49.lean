import Derived.Test.YtgjdkgkgbmbffaaDoorJ48
set_option linter.unusedVariables false
set_option linter.unusedSimpArgs false
set_option maxHeartbeats 64000000
set_option maxRecDepth 100000
namespace Go.Proofs.YtgjdkgkgbmbffaaDoor
open Go.RowKit Go.IntWalk Go.Deep
set_option linter.unusedVariables false
section
variable {H : Type} {enc : TypeId × Value → H} {w : World}
theorem c40 : Tryd.prog.cellsOf 40 = 1 := by kernel_rfl
theorem y2 : Tryd.prog.bytesOf 2 = 8 := by kernel_rfl
theorem y40 : Tryd.prog.bytesOf 40 = 24 := by kernel_rfl
theorem open_longsW {v : Value} (h : Rd0 enc w 40 [v]) : ∃ a n c L, v = .slice a n c ∧ n = L.length ∧ HInts (fun _ => True) w (.slice a n c) L ∧ Lo.Wd L := by
  obtain ⟨fuel, x, h, hw⟩ := h
  obtain ⟨a, n, c, C, m, D, Pl, e, hs, _, hi⟩ := open_row Tryd.underlying40 c2 (by decide) y2 h hw
  injection e with e _
  obtain ⟨f, hf⟩ := choose_lt2 (n := n) (α := Int) (p := fun i x => C i = [.int .i64 x] ∧ I64 x) (fun i h => by
    obtain ⟨u, hu⟩ : ∃ u, C i = [u] := by
      obtain ⟨_, _, _, _, _, h5⟩ := hs
      obtain ⟨_, _, _, _, _, h6⟩ := h5 (by omega)
      exact List.length_eq_one_iff.1 (h6 i h).1
    have h0 : Rd0 enc w 2 [u] := by rw [← hu]; exact ⟨m, _, (hi i h).1, (hi i h).2.1⟩
    obtain ⟨q, e, hq⟩ := long_of Tryd.underlying2 h0
    exact ⟨q, by rw [hu, e], hq⟩)
  obtain ⟨l, hl, hg⟩ := list_of n f
  refine ⟨a, n, c, l, e, hl.symm, ⟨C, by rw [hl]; exact hs, fun i h => ?_⟩, fun p hp => ?_⟩
  · rw [hg i h]
    exact (hf i (by omega)).1
  · obtain ⟨i, hi2, rfl⟩ := List.getElem_of_mem hp
    rw [hg i hi2]
    exact (hf i (by omega)).2
theorem open_rowsW {v : Value} (h : Rd0 enc w 32 [v]) : ∃ a c L, v = .slice a L.length c ∧ HRow kLL (fun _ => True) w (.slice a L.length c) L ∧ ∀ r ∈ L, Lo.Wd r := by
  obtain ⟨fuel, x, h, hw⟩ := h
  obtain ⟨a, n, c, C, m, D, Pl, e, hs, _, hi⟩ := open_row Tryd.underlying32 c40 (by decide) y40 h hw
  injection e with e _
  obtain ⟨f, hf⟩ := choose_lt2 (n := n) (α := List Int) (p := fun i x => (∃ u, C i = [u] ∧ HInts (fun _ => True) w u x) ∧ Lo.Wd x) (fun i h => by
    obtain ⟨u, hu⟩ : ∃ u, C i = [u] := by
      obtain ⟨_, _, _, _, _, h5⟩ := hs
      obtain ⟨_, _, _, _, _, h6⟩ := h5 (by omega)
      exact List.length_eq_one_iff.1 (h6 i h).1
    have h0 : Rd0 enc w 40 [u] := by rw [← hu]; exact ⟨m, _, (hi i h).1, (hi i h).2.1⟩
    obtain ⟨a, n, c, L, e, -, hL, hW⟩ := open_longsW h0
    exact ⟨L, ⟨u, hu, by rw [e]; exact hL⟩, hW⟩)
  obtain ⟨l, hl, hg⟩ := list_of n f
  refine ⟨a, c, l, by rw [hl]; exact e, ?_, fun p hp => ?_⟩
  · rw [hl]
    exact ⟨C, by rw [hl]; exact hs, fun i h => by rw [hg i h]; exact (hf i (by omega)).1⟩
  · obtain ⟨i, hi2, rfl⟩ := List.getElem_of_mem hp
    rw [hg i hi2]
    exact (hf i (by omega)).2
end
end Go.Proofs.YtgjdkgkgbmbffaaDoor
