import Derived.Test.YtgjdkgkgbmbffaaDoorJ27
import Derived.WalkKit
import Derived.WalkSpells
import Derived.IntWalk
import Derived.Deep.Cut
import Derived.Deep.LoopGhost
import Derived.Laws.Cover1
import Derived.Lib.Hide
set_option linter.unusedVariables false
set_option linter.unusedSimpArgs false
set_option maxHeartbeats 64000000
set_option maxRecDepth 100000
namespace Go.Proofs.YtgjdkgkgbmbffaaDoor
open Go.RowKit Go.IntWalk
set_option linter.unusedVariables false
set_option linter.unusedSimpArgs false
/-- a machine with its loops: they lie beside the cells -/
structure Mach (w : World) (mb cb nc : Nat) (aP aG aS : Option Addr) (cP cG cS : Nat) (L : Lo.Lp) : Prop where
  m : MaAt w mb cb L.c (.slice aP L.P.length cP) (.slice aG L.G.length cG) (.slice aS L.S.length cS) nc
  n : (nc : Int) = L.c
  h : HLp (fun i => i ≠ cb) w aP aG aS cP cG cS L
theorem HInts.past {ok : Nat → Prop} {w w' : World} {cb : Nat} {v : Value} {l : List Int} (h : HInts ok w v l) (a : Aside [cb] w.heap.size w w') (hok : ∀ i, ok i → i ≠ cb) : HInts ok w' v l := h.keep a.size fun i hi hl => a.block i hl (by simpa using hok i hi)
theorem Mach.past {w w' : World} {mb cb nc : Nat} {aP aG aS : Option Addr} {cP cG cS : Nat} {L : Lo.Lp} (h : Mach w mb cb nc aP aG aS cP cG cS L) (a : Aside [cb] w.heap.size w w') : Mach w' mb cb nc aP aG aS cP cG cS L :=
  ⟨h.m.past a, h.n, h.h.keep a.size fun i hi hl => a.block i hl (by simpa using hi)⟩
theorem do29_any {w : World} {mb cb nc : Nat} {c : Int} {vP vG vS : Value} {M : List Int} (hm : MaAt w mb cb c vP vG vS nc) (hnc : (nc : Int) = c) (hl : LB w cb M) (hc : (M.length : Int) = c) (hcM : c ≤ 6000) (s : Lo.Sp) {y : SpV} (hy : HSp (fun i => i ≠ cb) w y s) (hO : Lo.Ok c s) : Calls Tryd.prog 29 #[.pointer (some ⟨mb, 0, none⟩), .agg #[.int .i64 s.op, .int .i64 s.k, .int .i64 s.n, .int .i64 s.tgt, .slice y.aF y.nF y.cF, .slice y.aE y.nE y.cE]] w (DoPost w cb (Lo.doS M s)) := by
  obtain ⟨op, k, n, t, F, E⟩ := s
  obtain ⟨o1, o2, o3, o4, o5⟩ := hO
  dsimp only at o1 o2 o3 o4 o5 hy ⊢
  obtain ⟨hF, hE⟩ := hy
  dsimp only at hF hE
  have hn : nc = M.length := by omega
  obtain ⟨tn, rfl⟩ : ∃ tn : Nat, t = (tn : Int) := ⟨t.toNat, by omega⟩
  unfold Lo.doS
  dsimp only
  by_cases h1 : op = 1
  · subst h1
    have e1 : Lo.turns ⟨1, k, n, (tn : Int), F, E⟩ = 1 := rfl
    have e2 : Lo.made ⟨1, k, n, (tn : Int), F, E⟩ = 1 := rfl
    rw [e1] at o4
    rw [e2] at o3
    rw [if_pos rfl, Int.toNat_natCast]
    exact doOne_any hm hl hn hc hcM (fun i h => h) k n tn (by omega) (F := F) hE o4
  have o2' := o2 h1
  obtain ⟨nn, rfl⟩ : ∃ nn : Nat, n = (nn : Int) := ⟨n.toNat, by omega⟩
  have e1 : Lo.turns ⟨op, k, (nn : Int), (tn : Int), F, E⟩ = (nn : Int) := by unfold Lo.turns; exact if_neg h1
  rw [e1] at o4
  rw [if_neg h1, Int.toNat_natCast, Int.toNat_natCast]
  by_cases h2 : op = 2
  · subst h2
    have e2 : Lo.made ⟨2, k, (nn : Int), (tn : Int), F, E⟩ = (nn : Int) := rfl
    rw [e2] at o3
    rw [if_pos rfl]
    exact doEach_any hm hl hn hc hcM (fun i h => h) k nn tn (by omega) (by omega) (F := F) hE o4
  rw [if_neg h2]
  by_cases h3 : op = 3
  · subst h3
    have e2 : Lo.made ⟨3, k, (nn : Int), (tn : Int), F, E⟩ = 1 := rfl
    rw [e2] at o3
    rw [if_pos rfl]
    exact doFold_any hm hl hn hc hcM (fun i h => h) k nn tn (by omega) (by omega) hF (o5 (.inl rfl)) hE o4
  have h4 : op = 4 := by omega
  subst h4
  have e2 : Lo.made ⟨4, k, (nn : Int), (tn : Int), F, E⟩ = (nn : Int) := rfl
  rw [e2] at o3
  rw [if_neg (by decide)]
  exact doScan_any hm hl hn hc hcM (fun i h => h) k nn tn (by omega) (by omega) hF (o5 (.inr rfl)) hE o4
end Go.Proofs.YtgjdkgkgbmbffaaDoor
