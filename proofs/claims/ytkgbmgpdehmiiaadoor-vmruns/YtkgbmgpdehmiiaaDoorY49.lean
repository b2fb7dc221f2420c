import Derived.Test.YtkgbmgpdehmiiaaDoorY48
import Derived.Test.YtkgbmgpdehmiiaaDoorY47
import Derived.Test.YtkgbmgpdehmiiaaDoorY28
import Derived.Test.YtkgbmgpdehmiiaaDoorY20
import Derived.WalkKit
import Derived.WalkSpells
import Derived.IntWalk
import Derived.Deep.Cut
import Derived.Deep.LoopGhost
import Derived.Laws.Cover1
import Derived.Lib.Hide
set_option linter.unusedVariables false
set_option linter.unusedSimpArgs false
set_option maxHeartbeats 64000000
set_option maxRecDepth 100000
namespace Go.Proofs.YtkgbmgpdehmiiaaDoor
open Go.RowKit Go.IntWalk
set_option linter.unusedVariables false
set_option linter.unusedSimpArgs false
/-- a row: the fault, what is told, the cells, how many instructions -/
def rowF (f : Int → Bool) (P G : List Int) (C : List Cd.In) (M : List Int) (st : Int) (X : List Int) : (Int × Int) × List Int × List Int × Int :=
 if (vfault f P X).1 ≠ 0 then (vfault f P X, [], M, st)
 else if (Em.allF C 0 ⟨fun _ => 0, Lo.putL M P X⟩ 0).p < 0 then ((0, 0), G.map fun g => Lo.rd (Em.allF C 0 ⟨fun _ => 0, Lo.putL M P X⟩ 0).s.M g, (Em.allF C 0 ⟨fun _ => 0, Lo.putL M P X⟩ 0).s.M, wrap64 (st + (Em.allF C 0 ⟨fun _ => 0, Lo.putL M P X⟩ 0).st))
 else ((16, (Em.allF C 0 ⟨fun _ => 0, Lo.putL M P X⟩ 0).p), [], M, st)
/-- what the program's row answers -/
structure RowR (ok : Nat → Prop) (w : World) (vb : Nat) (P G : List Int) (C : List Cd.In) (f : Int → Bool) (nc : Nat) (r : (Int × Int) × List Int × List Int × Int) (e : Ending) (w' : World) : Prop where
 x : ∃ ax cx, e = .returned (.tuple #[.slice ax r.2.1.length cx, .agg #[.int .i64 r.1.1, .int .i64 r.1.2]]) ∧ HInts (fun i => w.heap.size ≤ i) w' (.slice ax r.2.1.length cx) r.2.1
 v : VAt ok w' vb P G C f nc r.2.2.1 r.2.2.2
 m : Lo.Wd r.2.2.1
 a : Aside [vb] w.heap.size w w'
theorem RowP.rf {ok : Nat → Prop} {w : World} {vb : Nat} {P G : List Int} {C : List Cd.In} {f : Int → Bool} {nc : Nat} {M : List Int} {st : Int} {X : List Int} {e : Ending} {w' : World} (h : RowP ok w vb P G C f nc M st X e w') (hV : VAt ok w vb P G C f nc M st) (hM : Lo.Wd M) : RowR ok w vb P G C f nc (rowF f P G C M st X) e w' := by
 unfold rowF
 by_cases h1 : (vfault f P X).1 ≠ 0
 ·rw [if_pos h1]
  obtain ⟨e1, b⟩ := h.bad h1
  exact ⟨⟨none, 0, e1, vm_nilI⟩, hV.below b, hM, aside b⟩
 ·rw [if_neg h1]
  have h1' : (vfault f P X).1 = 0 := Classical.not_not.1 h1
  by_cases h2 : (Em.allF C 0 ⟨fun _ => 0, Lo.putL M P X⟩ 0).p < 0
  ·rw [if_pos h2]
   obtain ⟨v, e1, o, hv, hm, a⟩ := h.good h1' h2
   obtain ⟨ax, cx, rfl, -, -⟩ := o.form
   exact ⟨⟨ax, cx, e1, HRow.wide o.row (fun i h _ => h)⟩, hv, hm, a⟩
  ·rw [if_neg h2]
   obtain ⟨e1, b⟩ := h.far h1' h2
   exact ⟨⟨none, 0, e1, vm_nilI⟩, hV.below b, hM, aside b⟩
/-- what the document's row answers -/
structure RowD (w : World) (gb cb nc cc : Nat) (v0 v1 v2 v3 v4 v5 v6 : Value) (r : (Int × Int) × List Int × List Int × Int) (e : Ending) (w' : World) : Prop where
 x : ∃ ax cx, e = .returned (.tuple #[.slice ax r.2.1.length cx, .agg #[.int .i64 r.1.1, .int .i64 r.1.2]]) ∧ HInts (fun i => w.heap.size ≤ i) w' (.slice ax r.2.1.length cx) r.2.1
 g : ∃ cb' cc', GAt w' gb cb' nc cc' v0 v1 v2 v3 v4 v5 v6 r.2.2.2 ∧ LX w' cb' r.2.2.1 ∧ nc ≤ cc' ∧ cc' ≤ maxLen ∧ (cb' = cb ∨ w.heap.size ≤ cb')
 a : Aside [gb, cb] w.heap.size w w'
theorem DRowP.rf {w : World} {gb cb nc cc : Nat} {v0 v1 v2 v3 v4 v5 v6 : Value} {st : Int} {P B G : List Int} {C : List Cd.In} {M X : List Int} {e : Ending} {w' : World} (h : DRowP w gb cb nc cc v0 v1 v2 v3 v4 v5 v6 st P B G C M X e w') (hcc : nc ≤ cc ∧ cc ≤ maxLen) : RowD w gb cb nc cc v0 v1 v2 v3 v4 v5 v6 (rowF (fun j => decide (j ∈ B)) P G C M st X) e w' := by
 unfold rowF
 by_cases h1 : (vfault (fun j => decide (j ∈ B)) P X).1 ≠ 0
 ·rw [if_pos h1]
  obtain ⟨e1, g, l⟩ := h.bad h1
  exact ⟨⟨none, 0, e1, vm_nilI⟩, ⟨cb, cc, g, l, hcc.1, hcc.2, .inl rfl⟩, h.a⟩
 ·rw [if_neg h1]
  have h1' : (vfault (fun j => decide (j ∈ B)) P X).1 = 0 := Classical.not_not.1 h1
  by_cases h2 : (Em.allF C 0 ⟨fun _ => 0, Lo.putL M P X⟩ 0).p < 0
  ·rw [if_pos h2]
   obtain ⟨v, e1, o, g, l⟩ := h.good h1' h2
   obtain ⟨ax, cx, rfl, -, -⟩ := o.form
   exact ⟨⟨ax, cx, e1, HRow.wide o.row (fun i h _ => h)⟩, ⟨cb, cc, g, l, hcc.1, hcc.2, .inl rfl⟩, h.a⟩
  ·rw [if_neg h2]
   obtain ⟨e1, cb', cc', g, l, q1, q2, q3⟩ := h.far h1' h2
   exact ⟨⟨none, 0, e1, vm_nilI⟩, ⟨cb', cc', g, l, q1, q2, .inr q3⟩, h.a⟩
theorem rowF_I64 {f : Int → Bool} {P G : List Int} {C : List Cd.In} {M : List Int} {st : Int} {X : List Int} (h : I64 st) : I64 (rowF f P G C M st X).2.2.2 := by
 unfold rowF
 split
 ·exact h
 ·split
  ·exact w64_I64 _
  ·exact h
theorem Cd.fault_two {m : Cd.Im} (h : (Cd.fault m).1 = 0) : (Cd.fault m).2 = 0 := by
 revert h
 unfold Cd.fault
 split
 ·exact fun h => absurd h (by decide)
 ·split
  ·exact fun h => absurd h (by decide)
  ·split
   ·exact fun h => absurd h (by decide)
   ·split
    ·exact fun h => absurd h (by simp)
    ·split
     ·exact fun h => absurd h (by decide)
     ·exact fun _ => rfl
theorem LX.of_lb {w : World} {g : Nat} {l : List Int} (h : LB w g l) : LX w g l := ⟨[], by rw [List.append_nil]; exact h⟩
/-- what goes on from row to row -/
structure RunsS (w0 w8 : World) (vb gb cb0 : Nat) (m : Cd.Im) (nc : Nat) (v0 v1 v2 v3 v4 v5 v6 : Value) (M : List Int) (st : Int) (wr : World) : Prop where
 x : ∃ cb cc, VAt (fun i => i ≠ vb ∧ i ≠ gb ∧ i ≠ cb) wr vb m.P m.G m.l (fun j => decide (j ∈ m.B)) nc M st ∧ GAt wr gb cb nc cc v0 v1 v2 v3 v4 v5 v6 st ∧ LX wr cb M ∧ nc ≤ cc ∧ cc ≤ maxLen ∧ gb ≠ cb ∧ vb ≠ cb ∧ w0.heap.size ≤ cb ∧ (cb = cb0 ∨ w8.heap.size ≤ cb)
 m : Lo.Wd M
 i : I64 st
set_option maxHeartbeats 64000000 in
theorem vmRuns3_any {okL okR : Nat → Prop} {w : World} {aP aB aG aL : Option Addr} {cP cB cG cL : Nat} {m : Cd.Im} (hK : GlobK w) (hm : HIm okL w aP aB aG aL cP cB cG cL m) (hn : ∀ i ∈ m.l, I64 i.n) {aR : Option Addr} {cR : Nat} {R : List (List Int)} (hR : HRow kLL okR w (.slice aR R.length cR) R) (hRw : ∀ r ∈ R, Lo.Wd r) :
  Calls Tryd.prog 3 #[.agg #[.int .i64 m.c, .int .i64 m.R, .int .i64 m.cost, .slice aP m.P.length cP, .slice aB m.B.length cB, .slice aG m.G.length cG, .slice aL m.l.length cL], .slice aR R.length cR] w fun e w' => e = .returned (.bool true) ∧ Below w.heap.size w w' := by
 have hm0 : HIm (fun i => i < w.heap.size) w aP aB aG aL cP cB cG cL m := hm.wide fun _ _ h => h
 have hR0 : HRow kLL (fun i => i < w.heap.size) w (.slice aR R.length cR) R := HRow.wide hR fun _ _ h => h
 have b1 : Below w.heap.size w (w.alloc (.cells #[.int .i64 m.c, .int .i64 m.R, .int .i64 m.cost, .slice aP m.P.length cP, .slice aB m.B.length cB, .slice aG m.G.length cG, .slice aL m.l.length cL] 25 (0, 0))) := (Below.refl _ _).alloc (Nat.le_refl _) _
 have kL := heap_new w (.cells #[.int .i64 m.c, .int .i64 m.R, .int .i64 m.cost, .slice aP m.P.length cP, .slice aB m.B.length cB, .slice aG m.G.length cG, .slice aL m.l.length cL] 25 (0, 0))
 have HK := hide (fun W (b : Below w.heap.size w W) => hK.under b)
 have HMI := hide (fun W (b : Below w.heap.size w W) => hm0.under b)
 have HCP := hide (fun W (b : Below w.heap.size w W) => copy7_any (hm0.under b))
 have HIF := hide (fun W (b : Below w.heap.size w W) => image9_any (hm0.under b))
 have HNEW := hide (fun (oP oB oG oL : Option Addr) (dP dB dG dL : Nat) (ok : Nat → Prop) W (b : Below w.heap.size w W) (hm : HIm ok W oP oB oG oL dP dB dG dL m) => new10_any (hK.under b) hm)
 have HR := hide hR0
 have HRw := hide hRw
 have HMW := hide (And.intro hm.W hn)
 clear hK hm hm0 hn hR hR0 hRw
 obtain ⟨mc, hmc⟩ : ∃ x, x = m.c := ⟨_, rfl⟩
 obtain ⟨mR, hmR⟩ : ∃ x, x = m.R := ⟨_, rfl⟩
 obtain ⟨mk, hmk⟩ : ∃ x, x = m.cost := ⟨_, rfl⟩
 obtain ⟨np, hnp⟩ : ∃ x, x = m.P.length := ⟨_, rfl⟩
 obtain ⟨nb, hnb⟩ : ∃ x, x = m.B.length := ⟨_, rfl⟩
 obtain ⟨ng, hng⟩ : ∃ x, x = m.G.length := ⟨_, rfl⟩
 obtain ⟨ln, hln⟩ : ∃ x, x = m.l.length := ⟨_, rfl⟩
 obtain ⟨nR, hnR⟩ : ∃ x, x = R.length := ⟨_, rfl⟩
 rw [← hmc, ← hmR, ← hmk, ← hnp, ← hnb, ← hng, ← hln] at b1 kL HCP HIF HNEW ⊢
 rw [← hnR] at HR ⊢
 have HMC := hide hmc
 have HMR := hide hmR
 have HMK := hide hmk
 have HNP := hide hnp
 have HNB := hide hnb
 have HNG := hide hng
 have HLN := hide hln
 have HNR := hide hnR
 clear hmc hmR hmk hnp hnb hng hln hnR
 go_enter Tryd.func3, Tryd.ntmps3
 go_upto_region 1 with fail
 generalize (w.alloc (.cells #[.int .i64 mc, .int .i64 mR, .int .i64 mk, .slice aP np cP, .slice aB nb cB, .slice aG ng cG, .slice aL ln cL] 25 (0, 0))) = w1 at b1 kL ⊢
 go_wp2_with fail
 refine (vmBegun5_any (HK.out _ b1)).mono ?_
 rintro e w2 ⟨rfl, b2⟩
 have B2 := b1.trans (b2.mono b1.size)
 have kL2 := (b2.block _ (lt_of kL)).trans kL
 have s0 := cell_of kL2 0
 have s1 := cell_of kL2 1
 have s2 := cell_of kL2 2
 have s3 := cell_of kL2 3
 have s4 := cell_of kL2 4
 have s5 := cell_of kL2 5
 have s6 := cell_of kL2 6
 simp at s0 s1 s2 s3 s4 s5 s6
 go_wp2_with fail
 refine (great6_any _ _ _ _).mono ?_
 rintro e w3 ⟨rfl, b3⟩
 have B3 := B2.trans (b3.mono B2.size)
 have kL3 := (b3.block _ (lt_of kL2)).trans kL2
 clear s0 s1 s2 s3 s4 s5 s6 kL kL2 b1 b2 b3
 have s0 := cell_of kL3 0
 have s1 := cell_of kL3 1
 have s2 := cell_of kL3 2
 have s3 := cell_of kL3 3
 have s4 := cell_of kL3 4
 have s5 := cell_of kL3 5
 have s6 := cell_of kL3 6
 simp at s0 s1 s2 s3 s4 s5 s6
 obtain ⟨q, hq⟩ : ∃ q, q = (decide (7000 < (np : Int)) || decide (7000 < (nb : Int)) || decide (20000 < (ng : Int)) || decide (20000 < (ln : Int))) := ⟨_, rfl⟩
 rw [← hq]
 have HQ := hide hq
 clear hq
 cases q
 case true =>
  go_wp2
  go_ret
  exact ⟨rfl, B3⟩
 case false =>
  go_wp2_with fail
  refine (rowsGreat2_any (HRow.under' HR.out B3)).mono ?_
  intro e w4 hp
  obtain ⟨q, ee, hb, b4⟩ := hp.out
  have B4 := B3.trans (b4.mono B3.size)
  have kL4 := (b4.block _ (lt_of kL3)).trans kL3
  clear s0 s1 s2 s3 s4 s5 s6 kL3 hp b4 B3
  subst ee
  have s0 := cell_of kL4 0
  have s1 := cell_of kL4 1
  have s2 := cell_of kL4 2
  have s3 := cell_of kL4 3
  have s4 := cell_of kL4 4
  have s5 := cell_of kL4 5
  have s6 := cell_of kL4 6
  simp at s0 s1 s2 s3 s4 s5 s6
  cases q
  case true =>
   go_wp2
   go_ret
   exact ⟨rfl, B4⟩
  case false =>
   obtain ⟨h60, hrl⟩ := hb rfl
   have hR60 : nR ≤ 60 := by have := HNR.out; omega
   have HRL := hide (And.intro h60 hrl)
   have hlen : np ≤ 7000 ∧ nb ≤ 7000 ∧ ng ≤ 20000 ∧ ln ≤ 20000 := by
    have h1 := HQ.out.symm
    simp at h1
    omega
   clear hb h60 hrl HQ
   have HCP4 := hide (HCP.out _ B4 (by omega) (by omega) (by omega) (by omega))
   go_wp2_with fail
   refine HCP4.out.mono ?_
   rintro e w5 ⟨oP, oB, oG, oL, dP, dB, dG, dL, ee, hio, b5⟩
   rw [← HMC.out, ← HMR.out, ← HMK.out, ← HNP.out, ← HNB.out, ← HNG.out, ← HLN.out] at ee
   have hio2 : HIm (fun i => w4.heap.size ≤ i ∧ i < w5.heap.size) w5 oP oB oG oL dP dB dG dL m := hio.wide fun i h1 h2 => ⟨h1, h2⟩
   have B5 := B4.trans (b5.mono B4.size)
   have kL5 := (b5.block _ (lt_of kL4)).trans kL4
   have z45 := b5.size
   have zL4 := lt_of kL4
   clear s0 s1 s2 s3 s4 s5 s6 kL4 HCP4 HCP hio b5 B4
   subst ee
   have b6 : Below w5.heap.size w5 (w5.alloc (.cells #[.int .i64 mc, .int .i64 mR, .int .i64 mk, .slice oP np dP, .slice oB nb dB, .slice oG ng dG, .slice oL ln dL] 25 (0, 0))) := (Below.refl _ _).alloc (Nat.le_refl _) _
   have kO6 := heap_new w5 (.cells #[.int .i64 mc, .int .i64 mR, .int .i64 mk, .slice oP np dP, .slice oB nb dB, .slice oG ng dG, .slice oL ln dL] 25 (0, 0))
   go_upto_region 6 with fail
   generalize w5.alloc (.cells #[.int .i64 mc, .int .i64 mR, .int .i64 mk, .slice oP np dP, .slice oB nb dB, .slice oG ng dG, .slice oL ln dL] 25 (0, 0)) = w6 at b6 kO6 ⊢
   have B6 := B5.trans (b6.mono B5.size)
   have kL6 := (b6.block _ (lt_of kL5)).trans kL5
   have HIO6 := hide (hio2.under b6)
   have z56 := lt_of kO6
   have HCR := hide (copyRows11_any (HRow.under' HR.out B6) HRL.out.1 (fun l hl => by have := HRL.out.2 l hl; omega))
   rw [← HNR.out] at HCR
   clear b6 B5 kL5 hio2
   go_wp2_with fail
   refine HCR.out.mono ?_
   rintro e w7 ⟨aI, cI, rfl, hIn, b7⟩
   have B7 := B6.trans (b7.mono B6.size)
   have kL7 := (b7.block _ (lt_of kL6)).trans kL6
   have kO7 := (b7.block _ (lt_of kO6)).trans kO6
   have HIO7 := hide (HIO6.out.under b7)
   have HIN7 := hide (HRow.wide (ok' := fun i => w6.heap.size ≤ i ∧ i < w7.heap.size) hIn (fun i h1 h2 => ⟨h1, h2⟩))
   have z67 := b7.size
   clear b7 B6 kL6 kO6 HIO6 hIn HCR
   have o0 := cell_of kO7 0
   have o1 := cell_of kO7 1
   have o2 := cell_of kO7 2
   have o3 := cell_of kO7 3
   have o4 := cell_of kO7 4
   have o5 := cell_of kO7 5
   have o6 := cell_of kO7 6
   simp at o0 o1 o2 o3 o4 o5 o6
   have HN7 := hide (HNEW.out _ _ _ _ _ _ _ _ _ _ B7 HIO7.out)
   go_wp2_with fail
   refine HN7.out.mono ?_
   rintro e w8 hp
   have b8 := hp.b
   have B8 := B7.trans (b8.mono B7.size)
   have kL8 := (b8.block _ (lt_of kL7)).trans kL7
   have kO8 := (b8.block _ (lt_of kO7)).trans kO7
   have HIO8 := hide (HIO7.out.under b8)
   have HIN8 := hide (HRow.keep HIN7.out b8.size (fun i _ hl => b8.block i hl))
   have z78 := b8.size
   have zO := lt_of kO7
   have zL := lt_of kL7
   clear HN7 HNEW o0 o1 o2 o3 o4 o5 o6 kL7 kO7 HIO7 HIN7 B7
   by_cases hz : (Cd.fault m).1 = 0
   case neg =>
    have ee := hp.bad hz
    obtain ⟨f1, hf1⟩ : ∃ x, x = (Cd.fault m).1 := ⟨_, rfl⟩
    obtain ⟨f2, hf2⟩ : ∃ x, x = (Cd.fault m).2 := ⟨_, rfl⟩
    rw [← hf1, ← hf2] at ee HIF
    have hf0 : f1 ≠ 0 := by rw [hf1]; exact hz
    have hfb : (f1 != 0) = true := by simpa using hf0
    have e1 : (f1 != f1) = false := by simp
    have e2 : (f2 != f2) = false := by simp
    have e3 : (f1 == f1) = true := by simp
    have e4 : (f2 == f2) = true := by simp
    clear hz hf1 hf2 hf0 hp b8
    subst ee
    have b9 : Below w8.heap.size w8 (w8.alloc (.cells #[.int .i64 f1, .int .i64 f2] 34 (0, 0))) := (Below.refl _ _).alloc (Nat.le_refl _) _
    have k9 := heap_new w8 (.cells #[.int .i64 f1, .int .i64 f2] 34 (0, 0))
    go_upto_region 8 with fail
    generalize w8.alloc (.cells #[.int .i64 f1, .int .i64 f2] 34 (0, 0)) = w9 at b9 k9 ⊢
    have B9 := B8.trans (b9.mono B8.size)
    have kL9 := (b9.block _ (lt_of kL8)).trans kL8
    have s0 := cell_of kL9 0
    have s1 := cell_of kL9 1
    have s2 := cell_of kL9 2
    have s3 := cell_of kL9 3
    have s4 := cell_of kL9 4
    have s5 := cell_of kL9 5
    have s6 := cell_of kL9 6
    simp at s0 s1 s2 s3 s4 s5 s6
    have HI9 := hide (HIF.out _ B9)
    go_wp2_with fail
    refine HI9.out.mono ?_
    rintro e w10 ⟨rfl, b10⟩
    have B10 := B9.trans (b10.mono B9.size)
    have k10 := (b10.block _ (lt_of k9)).trans k9
    clear kL9 kL8 s0 s1 s2 s3 s4 s5 s6 b9 b10 k9 B9 HI9 kO8
    have b11 : Below w10.heap.size w10 (w10.alloc (.cells #[.int .i64 f1, .int .i64 f2] 34 (0, 0))) := (Below.refl _ _).alloc (Nat.le_refl _) _
    have k11 := heap_new w10 (.cells #[.int .i64 f1, .int .i64 f2] 34 (0, 0))
    go_upto_region 9 with fail
    generalize w10.alloc (.cells #[.int .i64 f1, .int .i64 f2] 34 (0, 0)) = w11 at b11 k11 ⊢
    have B11 := B10.trans (b11.mono B10.size)
    have k1011 := (b11.block _ (lt_of k10)).trans k10
    have p0 := cell_of k1011 0
    have p1 := cell_of k1011 1
    simp at p0 p1
    have q0 := cell_of k11 0
    have q1 := cell_of k11 1
    simp at q0 q1
    go_wp2
    go_ret
    exact ⟨rfl, B11⟩
   case pos =>
    obtain ⟨vb, zv, ee, hv⟩ := hp.good hz
    obtain ⟨nc, nr, hr1, hr2, hr3, hr4, hr5, hr6, hr7, hr8, hr9, hr10, hr11⟩ := Cd.row_of hz HMW.out.1 HMW.out.2
    have hgd := Cd.good_of hz
    have hff : (Cd.fault m).2 = 0 := Cd.fault_two hz
    have hmc3 : mc = (nc : Int) := HMC.out.trans hr1
    obtain ⟨nr2, hnr2⟩ : ∃ n : Nat, m.R = (n : Int) := ⟨m.R.toNat, by have := hgd.1; omega⟩
    have hmR3 : mR = (nr2 : Int) := HMR.out.trans hnr2
    have HRO := hide (And.intro (show 1 ≤ nr2 ∧ nr2 ≤ 40 by have := hgd.1; omega) (And.intro (show ∀ x ∈ m.l, InOk nc nr2 x from fun x hx => ⟨⟨by rw [← hr1, ← hnr2]; exact hgd.2.2.2.2.2.1 x hx, HMW.out.1 x hx⟩, HMW.out.2 x hx⟩) (And.intro hr6 (And.intro hr7 (And.intro hr8 (And.intro hr9 (And.intro hr10 hr11)))))))
    subst hmc3 hmR3
    rw [hr2] at hv
    have HV8 := hide hv
    have hvl := hv.lt
    rw [hz, hff] at HIF
    clear hp hz hff hgd hr1 hr2 hr4 hr5 hr6 hr7 hr8 hr9 hr10 hr11 HMW hv hnr2 b8
    subst ee
    have b9 : Below w8.heap.size w8 (w8.alloc (.cells #[.int .i64 0, .int .i64 0] 34 (0, 0))) := (Below.refl _ _).alloc (Nat.le_refl _) _
    have k9 := heap_new w8 (.cells #[.int .i64 0, .int .i64 0] 34 (0, 0))
    go_upto_region 8 with fail
    generalize w8.alloc (.cells #[.int .i64 0, .int .i64 0] 34 (0, 0)) = w9 at b9 k9 ⊢
    have B9 := B8.trans (b9.mono B8.size)
    have kL9 := (b9.block _ (lt_of kL8)).trans kL8
    have kO9 := (b9.block _ (lt_of kO8)).trans kO8
    have s0 := cell_of kL9 0
    have s1 := cell_of kL9 1
    have s2 := cell_of kL9 2
    have s3 := cell_of kL9 3
    have s4 := cell_of kL9 4
    have s5 := cell_of kL9 5
    have s6 := cell_of kL9 6
    simp at s0 s1 s2 s3 s4 s5 s6
    have HI9 := hide (HIF.out _ B9)
    have HV9 := hide (HV8.out.below b9)
    have HIO9 := hide (HIO8.out.under b9)
    have HIN9 := hide (HRow.keep HIN8.out b9.size (fun i _ hl => b9.block i hl))
    have z89 := b9.size
    go_wp2_with fail
    refine HI9.out.mono ?_
    rintro e w10 ⟨rfl, b10⟩
    have B10 := B9.trans (b10.mono B9.size)
    have k10 := (b10.block _ (lt_of k9)).trans k9
    have kL10 := (b10.block _ (lt_of kL9)).trans kL9
    have kO10 := (b10.block _ (lt_of kO9)).trans kO9
    have HV10 := hide (HV9.out.below b10)
    have HIO10 := hide (HIO9.out.under b10)
    have HIN10 := hide (HRow.keep HIN9.out b10.size (fun i _ hl => b10.block i hl))
    have z910 := b10.size
    clear kL9 kL8 s0 s1 s2 s3 s4 s5 s6 b9 b10 k9 B9 B8 HI9 HIF kO8 kO9 HV8 HV9 HIO8 HIO9 HIN8 HIN9
    have b11 : Below w10.heap.size w10 (w10.alloc (.cells #[.int .i64 0, .int .i64 0] 34 (0, 0))) := (Below.refl _ _).alloc (Nat.le_refl _) _
    have k11 := heap_new w10 (.cells #[.int .i64 0, .int .i64 0] 34 (0, 0))
    go_upto_region 9 with fail
    generalize w10.alloc (.cells #[.int .i64 0, .int .i64 0] 34 (0, 0)) = w11 at b11 k11 ⊢
    have B11 := B10.trans (b11.mono B10.size)
    have k1011 := (b11.block _ (lt_of k10)).trans k10
    have kL11 := (b11.block _ (lt_of kL10)).trans kL10
    have kO11 := (b11.block _ (lt_of kO10)).trans kO10
    have HV11 := hide (HV10.out.below b11)
    have HIO11 := hide (HIO10.out.under b11)
    have HIN11 := hide (HRow.keep HIN10.out b11.size (fun i _ hl => b11.block i hl))
    have z1011 := b11.size
    have p0 := cell_of k1011 0
    have p1 := cell_of k1011 1
    simp at p0 p1
    have q0 := cell_of k11 0
    have q1 := cell_of k11 1
    simp at q0 q1
    have s0 := cell_of kL11 0
    have s1 := cell_of kL11 1
    have s2 := cell_of kL11 2
    have s3 := cell_of kL11 3
    have s4 := cell_of kL11 4
    have s5 := cell_of kL11 5
    have s6 := cell_of kL11 6
    simp at s0 s1 s2 s3 s4 s5 s6
    clear b11 B10 k10 kL10 kO10 HV10 HIO10 HIN10
    by_cases hk2 : 20000 < mk
    case pos =>
     go_wp2
     go_ret
     exact ⟨rfl, B11⟩
    case neg =>
     have HBG := hide (begin17_any (w := w11) (nc := nc) (R := (nr2 : Int)) (ko := mk) (aP := aP) (aB := aB) (aG := aG) (aL := aL) (np := np) (nb := nb) (ng := ng) (nl := ln) (cP := cP) (cB := cB) (cG := cG) (cL := cL) hr3.2)
     go_wp2_with fail
     refine HBG.out.mono ?_
     rintro e w12 ⟨gb, cb0, rfl, hg, hlb, zc1, zc2, b12⟩
     have B12 := B11.trans (b12.mono B11.size)
     have kL12 := (b12.block _ (lt_of kL11)).trans kL11
     have kO12 := (b12.block _ (lt_of kO11)).trans kO11
     have z1112 := b12.size
     have hgl := lt_of hg
     have hvl11 := HV11.out.lt
     have hv12 : VAt (fun i => i ≠ vb ∧ i ≠ gb ∧ i ≠ cb0) w12 vb m.P m.G m.l (fun j => decide (j ∈ m.B)) nc (List.replicate nc 0) 0 := (HV11.out.wide (ok' := fun i => i ≠ vb ∧ i ≠ gb ∧ i ≠ cb0) (fun i h hl => ⟨h.2, by omega, by omega⟩)).below b12
     have HIO12 := HIO11.out.under b12
     have HIN12 := HRow.keep HIN11.out b12.size (fun i _ hl => b12.block i hl)
     have HRS := hide (show RunsS w w12 vb gb cb0 m nc (.int .i64 (nc : Int)) (.int .i64 (nr2 : Int)) (.int .i64 mk) (.slice aP np cP) (.slice aB nb cB) (.slice aG ng cG) (.slice aL ln cL) (List.replicate nc 0) 0 w12 from ⟨⟨cb0, nc, hv12, hg, LX.of_lb hlb, Nat.le_refl _, by unfold maxLen; omega, by omega, by omega, by omega, .inl rfl⟩, fun x hx => by rw [List.eq_of_mem_replicate hx]; unfold I64; omega, by unfold I64; omega⟩)
     have zw12 : w.heap.size ≤ w12.heap.size := B12.size
     have HMM := hide (fun W (a : Aside [vb, gb, cb0] w12.heap.size w12 W) => (HMI.out _ B12).keep a.size (fun j hj hl => a.block j hl (by simp; omega)))
     have HOO := hide (fun W (a : Aside [vb, gb, cb0] w12.heap.size w12 W) => HIO12.keep a.size (fun j hj hl => a.block j hl (by simp; omega)))
     have HRR := hide (fun W (a : Aside [vb, gb, cb0] w12.heap.size w12 W) => (HRow.keep (HRow.under' HR.out B12) a.size (fun j hj hl => a.block j hl (by simp; omega)) : HRow kLL (fun i => i < w.heap.size) W (.slice aR nR cR) R))
     have HII := hide (fun W (a : Aside [vb, gb, cb0] w12.heap.size w12 W) => (HRow.keep HIN12 a.size (fun j hj hl => a.block j hl (by simp; omega)) : HRow kLL (fun i => w6.heap.size ≤ i ∧ i < w7.heap.size) W (.slice aI nR cI) R))
     have HKL := hide (fun W (a : Aside [vb, gb, cb0] w12.heap.size w12 W) => (a.block w.heap.size (lt_of kL12) (by simp; omega)).trans kL12)
     have HKO := hide (fun W (a : Aside [vb, gb, cb0] w12.heap.size w12 W) => (a.block w5.heap.size (lt_of kO12) (by simp; omega)).trans kO12)
     have HBE := hide (fun W (a : Aside [vb, gb, cb0] w12.heap.size w12 W) => (B12.trans ⟨a.os, a.tape, a.output, a.size, fun k hk => a.block k (Nat.lt_of_lt_of_le hk B12.size) (by simp; omega)⟩ : Below w.heap.size w W))
     have hord : w7.heap.size ≤ vb ∧ w.heap.size ≤ vb ∧ vb < w12.heap.size ∧ gb < w12.heap.size ∧ w.heap.size ≤ gb ∧ vb ≠ gb ∧ w12.heap.size ≤ w12.heap.size ∧ w7.heap.size ≤ gb ∧ w7.heap.size ≤ cb0 ∧ cb0 < w12.heap.size := by omega
     clear hv12 HIO12 HIN12 HIO11 HIN11 HV11 hg hlb b12 B12 B11 kL11 kO11 kL12 kO12 HBG HR HMI HK k11 k1011 p0 p1 q0 q1 s0 s1 s2 s3 s4 s5 s6
     go_wp2_with fail
     go_loopg [11] nR (fun kz v11 wr => ∃ (i : Nat) (M : List Int) (st : Int), i ≤ nR ∧ kz = nR - i ∧ v11 = .int .i64 (i : Nat) ∧ Hid (RunsS w w12 vb gb cb0 m nc (.int .i64 (nc : Int)) (.int .i64 (nr2 : Int)) (.int .i64 mk) (.slice aP np cP) (.slice aB nb cB) (.slice aG ng cG) (.slice aL ln cL) M st wr) ∧ Aside [vb, gb, cb0] w12.heap.size w12 wr)
     case atStart => exact ⟨0, List.replicate nc 0, 0, Nat.zero_le _, rfl, rfl, HRS, Aside.refl _⟩
     case round =>
      clear HRS
      obtain ⟨i, M, st, hi, rfl, rfl, HS, ab⟩ := hrel
      by_cases hlt : i < nR
      case neg =>
       have hncs : ¬ (i : Int) < (nR : Int) := by omega
       have kLr := HKL.out _ ab
       have kOr := HKO.out _ ab
       have hcI := sameImage12_any (HOO.out _ ab) (HMM.out _ ab)
       rw [← HMC.out, ← HMR.out, ← HMK.out, ← HNP.out, ← HNB.out, ← HNG.out, ← HLN.out] at hcI
       have HCI := hide hcI
       have HRB := hide (fun W (b : Below wr.heap.size wr W) => sameRows19_same (HRow.under' (HII.out _ ab) b) (HRow.under' (HRR.out _ ab) b))
       have BE := HBE.out _ ab
       clear hcI HS HKL HKO HOO HMM HII HRR HBE
       have s0 := cell_of kLr 0
       have s1 := cell_of kLr 1
       have s2 := cell_of kLr 2
       have s3 := cell_of kLr 3
       have s4 := cell_of kLr 4
       have s5 := cell_of kLr 5
       have s6 := cell_of kLr 6
       simp at s0 s1 s2 s3 s4 s5 s6
       have o0 := cell_of kOr 0
       have o1 := cell_of kOr 1
       have o2 := cell_of kOr 2
       have o3 := cell_of kOr 3
       have o4 := cell_of kOr 4
       have o5 := cell_of kOr 5
       have o6 := cell_of kOr 6
       simp at o0 o1 o2 o3 o4 o5 o6
       go_wp2_with fail
       refine HCI.out.mono ?_
       rintro e w13 ⟨rfl, b13⟩
       have HRB2 := hide (HRB.out _ b13)
       have BE2 := BE.trans (b13.mono BE.size)
       clear HCI HRB b13 BE
       go_wp2_with fail
       refine HRB2.out.mono ?_
       rintro e w14 ⟨rfl, b14⟩
       have BE3 := BE2.trans (b14.mono BE2.size)
       go_wp2
       go_ret
       exact ⟨rfl, BE3⟩
      case pos =>
       have hil : (i : Int) < (nR : Int) := by omega
       have hiR : i < R.length := by have := HNR.out; omega
       obtain ⟨aU, cU, eU, -, -, hatU⟩ := (HRR.out wr ab).llAt2
       injection eU with r1 r2 r3
       obtain ⟨bU, oU, u, eaU, yU, nU, e0, hIu⟩ := hatU i hiR
       rw [eaU] at r1
       obtain ⟨aV, cV, eV, -, -, hatV⟩ := (HII.out wr ab).llAt2
       injection eV with t1 t2 t3
       obtain ⟨bV, oV, u2, eaV, yV, nV, d0, hIv⟩ := hatV i hiR
       rw [eaV] at t1
       have hww := HRw.out R[i] (List.getElem_mem _)
       generalize R[i] = X at hIu hIv hww
       obtain ⟨aX, cX, rfl, -, -, -⟩ := hIu.at
       obtain ⟨aY, cY, rfl, -, -, -⟩ := hIv.at
       subst r1 t1
       clear hatU r2 r3 hatV t2 t3 hiR
       obtain ⟨cb, cc, hv, hg, hl, q1, q2, q3, q4, q5, q6⟩ := HS.out.x
       have hvr := hv.lt
       have hgr := lt_of hg
       have hlr := hl.lt
       have hMl := hv.l
       have hrv := row13_any hv (fun i h => h.1) (fun i h => ⟨by omega, by omega, by omega⟩) hIv hr3 HRO.out.1.2 HRO.out.2.1 HRO.out.2.2.1 HS.out.m hww HRO.out.2.2.2.1 HRO.out.2.2.2.2.1 HRO.out.2.2.2.2.2.1 HRO.out.2.2.2.2.2.2.1 HRO.out.2.2.2.2.2.2.2
       have HRV := hide (hrv.mono (fun e w' h => h.rf hv HS.out.m))
       obtain ⟨nx, hnx⟩ : ∃ x, x = X.length := ⟨_, rfl⟩
       rw [← hnx] at e0 d0 HRV
       obtain ⟨rf, hrf⟩ : ∃ x, x = rowF (fun j => decide (j ∈ m.B)) m.P m.G m.l M st X := ⟨_, rfl⟩
       rw [← hrf] at HRV
       have hri := rowF_I64 (f := (fun j => decide (j ∈ m.B))) (P := m.P) (G := m.G) (C := m.l) (M := M) (X := X) HS.out.i
       rw [← hrf] at hri
       have HX := hide (And.intro hnx hww)
       have HRF := hide hrf
       have HGL := hide (And.intro hg hl)
       have zr := ab.size
       clear hrv hnx hww hrf hg hl hIv hv
       go_wp2_with fail
       refine HRV.out.mono ?_
       intro e w13 hp
       obtain ⟨ax, cx, ee, hT1⟩ := hp.x
       have hv13 := hp.v
       have hm13 := hp.m
       have a13 := hp.a
       obtain ⟨k1, hk1⟩ : ∃ x, x = rf.1.1 := ⟨_, rfl⟩
       obtain ⟨k2, hk2⟩ : ∃ x, x = rf.1.2 := ⟨_, rfl⟩
       obtain ⟨T, hT⟩ : ∃ x, x = rf.2.1 := ⟨_, rfl⟩
       obtain ⟨M', hM'⟩ : ∃ x, x = rf.2.2.1 := ⟨_, rfl⟩
       obtain ⟨st', hst'⟩ : ∃ x, x = rf.2.2.2 := ⟨_, rfl⟩
       rw [← hk1, ← hk2, ← hT] at ee
       rw [← hT] at hT1
       rw [← hM', ← hst'] at hv13
       rw [← hM'] at hm13
       rw [← hst'] at hri
       obtain ⟨nt, hnt⟩ : ∃ x, x = T.length := ⟨_, rfl⟩
       rw [← hnt] at ee hT1
       have HRE := hide (And.intro hk1 (And.intro hk2 (And.intro hT (And.intro hM' (And.intro hst' hnt)))))
       have HV13 := hide (And.intro hv13 (And.intro hm13 hri))
       have HT13 := hide hT1
       have z13 := a13.size
       have a13b : Aside [vb, gb, cb0] wr.heap.size wr w13 := a13.wide (fun k _ h => by simp at h ⊢; exact h.1)
       have A13 := ab.trans a13b ab.size
       have hg13 := HGL.out.1.keep (a13.block _ hgr (by simp; omega))
       have hl13 := HGL.out.2.keep (a13.block _ hlr (by simp; omega))
       have HGL13 := hide (And.intro hg13 hl13)
       have hX13 := hIu.keep a13.size (fun j hj hl => a13.block j hl (by simp; omega))
       have HX13 := hide hX13
       have e13 := (aside_cell a13 (p := ⟨bU, oU + i, none⟩) yU (by simp; omega)).trans e0
       have y13 := Nat.lt_of_lt_of_le yU a13.size
       subst ee
       clear hp hv13 hm13 hri hT1 hk1 hk2 hT hM' hst' hnt a13 a13b hg13 hl13 hX13 e0 d0 HGL hIu HRV yV
       have b14 : Below w13.heap.size w13 (w13.alloc (.cells #[.int .i64 k1, .int .i64 k2] 34 (0, 0))) := (Below.refl _ _).alloc (Nat.le_refl _) _
       have k14 := heap_new w13 (.cells #[.int .i64 k1, .int .i64 k2] 34 (0, 0))
       go_upto_region 18 with fail
       generalize w13.alloc (.cells #[.int .i64 k1, .int .i64 k2] 34 (0, 0)) = w14 at b14 k14 ⊢
       have A14 := A13.trans (aside (S := [vb, gb, cb0]) b14) A13.size
       have HV14 := hide (HV13.out.1.below b14)
       have HT14 := hide (HT13.out.below b14)
       have e14 := (b14.cell (p := ⟨bU, oU + i, none⟩) y13).trans e13
       have y14 := Nat.lt_of_lt_of_le y13 b14.size
       have z14 := b14.size
       have y14k := lt_of k14
       have hg14 := HGL13.out.1.keep (b14.block _ (lt_of HGL13.out.1))
       have hl14 := HGL13.out.2.under b14
       have hm14 := HMM.out _ A14
       rw [HNP.out, HNB.out, HNG.out, HLN.out] at hg14
       have hX14 : HInts (fun i => i < w.heap.size) w14 (.slice aX X.length cX) X := HX13.out.below b14
       have hrd := docRow_any (okL := fun i => i < w.heap.size) hg14 hl14 hm14.P hm14.B hm14.G hm14.L hX14 (fun j hj => by omega) hMl hr3.1 hr3.2 ⟨q1, q2⟩ q3 HRO.out.1 HRO.out.2.1 HRO.out.2.2.1 HS.out.m HX.out.2 HRO.out.2.2.2.2.2.2.2 HRO.out.2.2.2.1 HRO.out.2.2.2.2.1 HRO.out.2.2.2.2.2.1 HRO.out.2.2.2.2.2.2.1 HS.out.i
       have hrd2 := hrd.mono (fun e w' h => h.rf ⟨q1, q2⟩)
       rw [← HRF.out, ← HX.out.1, ← HNP.out, ← HNB.out, ← HNG.out, ← HLN.out] at hrd2
       have HRD := hide hrd2
       clear hrd hrd2 hg14 hl14 hm14 hX14 b14 A13 HGL13 HX13 e13
       go_wp2_with fail
       refine HRD.out.mono ?_
       intro e w15 hp
       obtain ⟨ay, cy, ee, hT2⟩ := hp.x
       obtain ⟨cb', cc', hg15, hl15, p1, p2, p3⟩ := hp.g
       have a15 := hp.a
       rw [← HRE.out.1, ← HRE.out.2.1, ← HRE.out.2.2.1, ← HRE.out.2.2.2.2.2] at ee
       rw [← HRE.out.2.2.1, ← HRE.out.2.2.2.2.2] at hT2
       rw [← HRE.out.2.2.2.2.1] at hg15
       rw [← HRE.out.2.2.2.1] at hl15
       have z15 := a15.size
       have hcn : gb ≠ cb' ∧ vb ≠ cb' ∧ w.heap.size ≤ cb' ∧ (cb' = cb0 ∨ w12.heap.size ≤ cb') := by
        rcases p3 with rfl | p3
        ·exact ⟨q3, q4, q5, q6⟩
        ·exact ⟨by omega, by omega, by omega, .inr (by omega)⟩
       have hv15 : VAt (fun i => i ≠ vb ∧ i ≠ gb ∧ i ≠ cb') w15 vb m.P m.G m.l (fun j => decide (j ∈ m.B)) nc M' st' := by
        have h1 := HV14.out.wide (ok' := fun i => (i ≠ vb ∧ i ≠ gb ∧ i ≠ cb) ∧ i < w14.heap.size) (fun i h hl => ⟨h, hl⟩)
        have h2 := h1.keep a15.size (fun j hj hl => a15.block j hl (by simp; omega)) (a15.block _ (by omega) (by simp; omega))
        refine h2.wide (fun i h _ => ⟨h.1.1, h.1.2.1, ?_⟩)
        rcases p3 with rfl | p3
        ·exact h.1.2.2
        ·omega
       have hT15 := HT14.out.wide (ok' := fun i => wr.heap.size ≤ i ∧ i < w14.heap.size) (fun i h hl => ⟨h, hl⟩) |>.keep a15.size (fun j hj hl => a15.block j hl (by simp; omega))
       have k15 := (a15.block _ y14k (by simp; omega)).trans k14
       have A15 : Aside [vb, gb, cb0] w12.heap.size w12 w15 := ⟨a15.os.trans A14.os, a15.tape.trans A14.tape, a15.output.trans A14.output, Nat.le_trans A14.size a15.size, fun j hj hs => (a15.block j (Nat.lt_of_lt_of_le hj A14.size) (by simp at hs ⊢; omega)).trans (A14.block j hj hs)⟩
       have b16 : Below w15.heap.size w15 (w15.alloc (.cells #[.int .i64 k1, .int .i64 k2] 34 (0, 0))) := (Below.refl _ _).alloc (Nat.le_refl _) _
       have k16 := heap_new w15 (.cells #[.int .i64 k1, .int .i64 k2] 34 (0, 0))
       have HTT := hide (And.intro hT15 hT2)
       have HVV := hide hv15
       have HGG := hide (And.intro hg15 hl15)
       have hMl2 := hv15.l
       subst ee
       clear hp hT2 hT15 hv15 hg15 hl15 a15 HRD HT14 HV14 A14 e14 HT13
       go_upto_region 19 with fail
       generalize w15.alloc (.cells #[.int .i64 k1, .int .i64 k2] 34 (0, 0)) = w16 at b16 k16 ⊢
       have A16 := A15.trans (aside (S := [vb, gb, cb0]) b16) A15.size
       have k1516 := (b16.block _ (lt_of k15)).trans k15
       have HSL1 := hide (fun W (b : Below w16.heap.size w16 W) => sameLongs_same ((HTT.out.1.below b16).below b) ((HTT.out.2.below b16).below b))
       have HV16 := hide (HVV.out.below b16)
       have HST := hide (fun W (b : Below w16.heap.size w16 W) => steps_at (HV16.out.below b))
       have HCV := hide (fun W (b : Below w16.heap.size w16 W) => cells_at (HV16.out.below b) hr3)
       have hg16 := HGG.out.1.keep (b16.block _ (lt_of HGG.out.1))
       have hl16 := HGG.out.2.under b16
       have HLC := hide (fun W (b : Below w16.heap.size w16 W) => (by
        have h := (hl16.under b).ints (ok := fun _ => True) (by rw [hMl2]; exact p1) p2 trivial
        rw [hMl2] at h
        exact h : HInts (fun _ => True) W (.slice (some ⟨cb', 0, none⟩) nc cc') M'))
       have kg16 : w16.heap[gb]? = some (.cells #[.int .i64 (nc : Int), .int .i64 (nr2 : Int), .int .i64 mk, .slice aP np cP, .slice aB nb cB, .slice aG ng cG, .slice aL ln cL, .slice (some ⟨cb', 0, none⟩) nc cc', .int .i64 st'] 46 (0, 0)) := hg16
       have g7 := cell_of kg16 7
       have g8 := cell_of kg16 8
       simp at g7 g8
       have x0 := cell_of k1516 0
       have x1 := cell_of k1516 1
       simp at x0 x1
       have y0 := cell_of k16 0
       have y1 := cell_of k16 1
       simp at y0 y1
       have yx := lt_of k1516
       have yy := lt_of k16
       have yg := lt_of kg16
       have e1 : (k1 == k1) = true := by simp
       have e2 : (k2 == k2) = true := by simp
       have e3 : (k1 != k1) = false := by simp
       have e4 : (k2 != k2) = false := by simp
       have e5 : (st' != st') = false := by simp
       have HEND := hide (fun W (b : Below w16.heap.size w16 W) => (show RunsS w w12 vb gb cb0 m nc (.int .i64 (nc : Int)) (.int .i64 (nr2 : Int)) (.int .i64 mk) (.slice aP np cP) (.slice aB nb cB) (.slice aG ng cG) (.slice aL ln cL) M' st' W from ⟨⟨cb', cc', HV16.out.below b, hg16.keep (b.block _ yg), hl16.under b, p1, p2, hcn.1, hcn.2.1, hcn.2.2.1, hcn.2.2.2⟩, HV13.out.2.1, HV13.out.2.2⟩))
       clear hg16 hl16 kg16 b16 A15 k15 HGG HVV HTT k1516 k16
       refine wp_region_late (fun w' => Below w16.heap.size w16 w') (fun _ => false) (by kernel_rfl) ?_
       have hH0 : Below w16.heap.size w16 w16.drew := (Below.refl _ _).drew
       generalize w16.drew = wd0 at hH0 ⊢
       refine' wpAnyL_take (i := 0) (oi := ⟨some 72, _, _, _, _, _⟩) (v := _) rfl (by kernel_rfl) (by kernel_rfl) (by kernel_rfl) (by kernel_rfl) (fun _ _ _ h => h) hH0 (by rfl) ?hyv ?o1
       case hyv =>
        intro wz hSw
        have zc0 := (hSw.cell (p := ⟨w13.heap.size, 0, none⟩) yx).trans x0
        have zc1 := (hSw.cell (p := ⟨w13.heap.size, 1, none⟩) yx).trans x1
        have zc2 := (hSw.cell (p := ⟨w15.heap.size, 0, none⟩) yy).trans y0
        have zc3 := (hSw.cell (p := ⟨w15.heap.size, 1, none⟩) yy).trans y1
        have zc4 := (hSw.cell (p := ⟨gb, 7, none⟩) yg).trans g7
        have zc5 := (hSw.cell (p := ⟨gb, 8, none⟩) yg).trans g8
        go_simp
        try rfl
       try simp only [Act.put, sT, sZ, sS]
       refine' wpAnyL_take (i := 1) (oi := ⟨some 73, _, _, _, _, _⟩) (v := _) rfl (by kernel_rfl) (by kernel_rfl) (by kernel_rfl) (by kernel_rfl) (fun _ _ _ h => h) hH0 (by rfl) ?hyv ?o2
       case hyv =>
        intro wz hSw
        have zc0 := (hSw.cell (p := ⟨w13.heap.size, 0, none⟩) yx).trans x0
        have zc1 := (hSw.cell (p := ⟨w13.heap.size, 1, none⟩) yx).trans x1
        have zc2 := (hSw.cell (p := ⟨w15.heap.size, 0, none⟩) yy).trans y0
        have zc3 := (hSw.cell (p := ⟨w15.heap.size, 1, none⟩) yy).trans y1
        have zc4 := (hSw.cell (p := ⟨gb, 7, none⟩) yg).trans g7
        have zc5 := (hSw.cell (p := ⟨gb, 8, none⟩) yg).trans g8
        go_simp
        try rfl
       try simp only [Act.put, sT, sZ, sS]
       refine' wpAnyL_take (i := 2) (oi := ⟨some 74, _, _, _, _, _⟩) (v := _) rfl (by kernel_rfl) (by kernel_rfl) (by kernel_rfl) (by kernel_rfl) (fun _ _ _ h => h) hH0 (by rfl) ?hyv ?o3
       case hyv =>
        intro wz hSw
        go_simp
        try rfl
       try simp only [Act.put, sT, sZ, sS]
       refine' wpAnyL_take (i := 3) (oi := ⟨some 75, _, _, _, _, _⟩) (v := _) rfl (by kernel_rfl) (by kernel_rfl) (by kernel_rfl) (by kernel_rfl) (fun _ _ _ h => h) hH0 (by rfl) ?hyv ?o4
       case hyv =>
        intro wz hSw
        go_simp
        try rfl
       try simp only [Act.put, sT, sZ, sS]
       refine' wpAnyL_take (i := 4) (oi := ⟨some 76, _, _, _, _, _⟩) (v := _) rfl (by kernel_rfl) (by kernel_rfl) (by kernel_rfl) (by kernel_rfl) (fun _ _ _ h => h) hH0 (by rfl) ?hyv ?o5
       case hyv =>
        intro wz hSw
        go_simp
        try rfl
       try simp only [Act.put, sT, sZ, sS]
       refine' wpAnyL_take (i := 5) (oi := ⟨some 77, _, _, _, _, _⟩) (v := _) rfl (by kernel_rfl) (by kernel_rfl) (by kernel_rfl) (by kernel_rfl) (fun _ _ _ h => h) hH0 (by rfl) ?hyv ?o6
       case hyv =>
        intro wz hSw
        go_simp
        try rfl
       try simp only [Act.put, sT, sZ, sS]
       refine wpAnyL_one (i := 6) (o := _) rfl (by kernel_rfl) (by rfl) (fun K hK => ?_)
       go_simp
       refine (HSL1.out wd0 hH0).mono ?_
       rintro eq wd1 ⟨rfl, bq1⟩
       have hH1 : Below w16.heap.size w16 wd1 := hH0.trans (bq1.mono hH0.size)
       refine hK.out _ _ (fun _ => hH1) ?_
       clear hK K
       try simp only [Act.put, sT, sZ, sS]
       refine' wpAnyL_take (i := 7) (oi := ⟨some 79, _, _, _, _, _⟩) (v := _) rfl (by kernel_rfl) (by kernel_rfl) (by kernel_rfl) (by kernel_rfl) (fun _ _ _ h => h) hH1 (by rfl) ?hyv ?o7
       case hyv =>
        intro wz hSw
        go_simp
        try rfl
       try simp only [Act.put, sT, sZ, sS]
       refine' wpAnyL_take (i := 8) (oi := ⟨some 80, _, _, _, _, _⟩) (v := _) rfl (by kernel_rfl) (by kernel_rfl) (by kernel_rfl) (by kernel_rfl) (fun _ _ _ h => h) hH1 (by rfl) ?hyv ?o8
       case hyv =>
        intro wz hSw
        go_simp
        try rfl
       try simp only [Act.put, sT, sZ, sS]
       refine' wpAnyL_take (i := 9) (oi := ⟨some 81, _, _, _, _, _⟩) (v := _) rfl (by kernel_rfl) (by kernel_rfl) (by kernel_rfl) (by kernel_rfl) (fun _ _ _ h => h) hH1 (by rfl) ?hyv ?o9
       case hyv =>
        intro wz hSw
        go_simp
        try rfl
       try simp only [Act.put, sT, sZ, sS]
       refine' wpAnyL_take (i := 10) (oi := ⟨some 82, _, _, _, _, _⟩) (v := _) rfl (by kernel_rfl) (by kernel_rfl) (by kernel_rfl) (by kernel_rfl) (fun _ _ _ h => h) hH1 (by rfl) ?hyv ?o10
       case hyv =>
        intro wz hSw
        go_simp
        try rfl
       try simp only [Act.put, sT, sZ, sS]
       refine' wpAnyL_take (i := 12) (oi := ⟨some 84, _, _, _, _, _⟩) (v := _) rfl (by kernel_rfl) (by kernel_rfl) (by kernel_rfl) (by kernel_rfl) (fun _ _ _ h => h) hH1 (by rfl) ?hyv ?o11
       case hyv =>
        intro wz hSw
        go_simp
        try rfl
       try simp only [Act.put, sT, sZ, sS]
       refine' wpAnyL_take (i := 13) (oi := ⟨some 85, _, _, _, _, _⟩) (v := _) rfl (by kernel_rfl) (by kernel_rfl) (by kernel_rfl) (by kernel_rfl) (fun _ _ _ h => h) hH1 (by rfl) ?hyv ?o12
       case hyv =>
        intro wz hSw
        go_simp
        try rfl
       try simp only [Act.put, sT, sZ, sS]
       refine' wpAnyL_take (i := 14) (oi := ⟨some 86, _, _, _, _, _⟩) (v := _) rfl (by kernel_rfl) (by kernel_rfl) (by kernel_rfl) (by kernel_rfl) (fun _ _ _ h => h) hH1 (by rfl) ?hyv ?o13
       case hyv =>
        intro wz hSw
        go_simp
        try rfl
       try simp only [Act.put, sT, sZ, sS]
       refine' wpAnyL_take (i := 15) (oi := ⟨some 87, _, _, _, _, _⟩) (v := _) rfl (by kernel_rfl) (by kernel_rfl) (by kernel_rfl) (by kernel_rfl) (fun _ _ _ h => h) hH1 (by rfl) ?hyv ?o14
       case hyv =>
        intro wz hSw
        have zc0 := (hSw.cell (p := ⟨w13.heap.size, 0, none⟩) yx).trans x0
        have zc1 := (hSw.cell (p := ⟨w13.heap.size, 1, none⟩) yx).trans x1
        have zc2 := (hSw.cell (p := ⟨w15.heap.size, 0, none⟩) yy).trans y0
        have zc3 := (hSw.cell (p := ⟨w15.heap.size, 1, none⟩) yy).trans y1
        have zc4 := (hSw.cell (p := ⟨gb, 7, none⟩) yg).trans g7
        have zc5 := (hSw.cell (p := ⟨gb, 8, none⟩) yg).trans g8
        go_simp
        try rfl
       try simp only [Act.put, sT, sZ, sS]
       refine wpAnyL_one (i := 11) (o := _) rfl (by kernel_rfl) (by rfl) (fun K hK => ?_)
       go_simp
       refine (HST.out wd1 hH1).mono ?_
       rintro eq wd2 ⟨rfl, bq2⟩
       have hH2 : Below w16.heap.size w16 wd2 := hH1.trans (bq2.mono hH1.size)
       refine hK.out _ _ (fun _ => hH2) ?_
       clear hK K
       try simp only [Act.put, sT, sZ, sS]
       refine' wpAnyL_take (i := 16) (oi := ⟨some 88, _, _, _, _, _⟩) (v := _) rfl (by kernel_rfl) (by kernel_rfl) (by kernel_rfl) (by kernel_rfl) (fun _ _ _ h => h) hH2 (by rfl) ?hyv ?o15
       case hyv =>
        intro wz hSw
        go_simp
        try rfl
       try simp only [Act.put, sT, sZ, sS]
       refine' wpAnyL_take (i := 17) (oi := ⟨some 89, _, _, _, _, _⟩) (v := _) rfl (by kernel_rfl) (by kernel_rfl) (by kernel_rfl) (by kernel_rfl) (fun _ _ _ h => h) hH2 (by rfl) ?hyv ?o16
       case hyv =>
        intro wz hSw
        go_simp
        try rfl
       try simp only [Act.put, sT, sZ, sS]
       refine' wpAnyL_take (i := 18) (oi := ⟨some 90, _, _, _, _, _⟩) (v := _) rfl (by kernel_rfl) (by kernel_rfl) (by kernel_rfl) (by kernel_rfl) (fun _ _ _ h => h) hH2 (by rfl) ?hyv ?o17
       case hyv =>
        intro wz hSw
        go_simp
        try rfl
       try simp only [Act.put, sT, sZ, sS]
       refine' wpAnyL_take (i := 19) (oi := ⟨some 91, _, _, _, _, _⟩) (v := _) rfl (by kernel_rfl) (by kernel_rfl) (by kernel_rfl) (by kernel_rfl) (fun _ _ _ h => h) hH2 (by rfl) ?hyv ?o18
       case hyv =>
        intro wz hSw
        go_simp
        try rfl
       try simp only [Act.put, sT, sZ, sS]
       refine' wpAnyL_take (i := 21) (oi := ⟨some 93, _, _, _, _, _⟩) (v := _) rfl (by kernel_rfl) (by kernel_rfl) (by kernel_rfl) (by kernel_rfl) (fun _ _ _ h => h) hH2 (by rfl) ?hyv ?o19
       case hyv =>
        intro wz hSw
        go_simp
        try rfl
       try simp only [Act.put, sT, sZ, sS]
       refine' wpAnyL_take (i := 22) (oi := ⟨some 94, _, _, _, _, _⟩) (v := _) rfl (by kernel_rfl) (by kernel_rfl) (by kernel_rfl) (by kernel_rfl) (fun _ _ _ h => h) hH2 (by rfl) ?hyv ?o20
       case hyv =>
        intro wz hSw
        go_simp
        try rfl
       try simp only [Act.put, sT, sZ, sS]
       refine' wpAnyL_take (i := 23) (oi := ⟨some 95, _, _, _, _, _⟩) (v := _) rfl (by kernel_rfl) (by kernel_rfl) (by kernel_rfl) (by kernel_rfl) (fun _ _ _ h => h) hH2 (by rfl) ?hyv ?o21
       case hyv =>
        intro wz hSw
        go_simp
        try rfl
       try simp only [Act.put, sT, sZ, sS]
       refine' wpAnyL_take (i := 24) (oi := ⟨some 96, _, _, _, _, _⟩) (v := _) rfl (by kernel_rfl) (by kernel_rfl) (by kernel_rfl) (by kernel_rfl) (fun _ _ _ h => h) hH2 (by rfl) ?hyv ?o22
       case hyv =>
        intro wz hSw
        have zc0 := (hSw.cell (p := ⟨w13.heap.size, 0, none⟩) yx).trans x0
        have zc1 := (hSw.cell (p := ⟨w13.heap.size, 1, none⟩) yx).trans x1
        have zc2 := (hSw.cell (p := ⟨w15.heap.size, 0, none⟩) yy).trans y0
        have zc3 := (hSw.cell (p := ⟨w15.heap.size, 1, none⟩) yy).trans y1
        have zc4 := (hSw.cell (p := ⟨gb, 7, none⟩) yg).trans g7
        have zc5 := (hSw.cell (p := ⟨gb, 8, none⟩) yg).trans g8
        go_simp
        try rfl
       try simp only [Act.put, sT, sZ, sS]
       refine wpAnyL_one (i := 20) (o := _) rfl (by kernel_rfl) (by rfl) (fun K hK => ?_)
       go_simp
       refine (HCV.out wd2 hH2).mono ?_
       rintro eq wd3 ⟨apv, cpv, rfl, hpv, bq3⟩
       have hH3 : Below w16.heap.size w16 wd3 := hH2.trans (bq3.mono hH2.size)
       refine hK.out _ _ (fun _ => hH3) ?_
       clear hK K
       try simp only [Act.put, sT, sZ, sS]
       refine wpAnyL_one (i := 25) (o := _) rfl (by kernel_rfl) (by rfl) (fun K hK => ?_)
       go_simp
       refine (sameLongs_same hpv (HLC.out wd3 hH3)).mono ?_
       rintro eq wd4 ⟨rfl, bq4⟩
       have hH4 : Below w16.heap.size w16 wd4 := hH3.trans (bq4.mono hH3.size)
       have hpv_4 := hpv.below bq4
       refine hK.out _ _ (fun _ => hH4) ?_
       clear hK K
       try simp only [Act.put, sT, sZ, sS]
       refine' wpAnyL_take (i := 26) (oi := ⟨some 98, _, _, _, _, _⟩) (v := _) rfl (by kernel_rfl) (by kernel_rfl) (by kernel_rfl) (by kernel_rfl) (fun _ _ _ h => h) hH4 (by rfl) ?hyv ?o23
       case hyv =>
        intro wz hSw
        go_simp
        try rfl
       try simp only [Act.put, sT, sZ, sS]
       refine' wpAnyL_take (i := 27) (oi := ⟨some 99, _, _, _, _, _⟩) (v := _) rfl (by kernel_rfl) (by kernel_rfl) (by kernel_rfl) (by kernel_rfl) (fun _ _ _ h => h) hH4 (by rfl) ?hyv ?o24
       case hyv =>
        intro wz hSw
        go_simp
        try rfl
       try simp only [Act.put, sT, sZ, sS]
       refine wpAnyL_done (by kernel_rfl) ?_ _
       go_wp2_with fail
       go_roundg (nR - (i + 1))
       case measure => omega
       case rel => exact ⟨i + 1, M', st', by omega, rfl, by go_num, hide (HEND.out _ hH4), A16.trans (aside (S := [vb, gb, cb0]) hH4) A16.size⟩
end Go.Proofs.YtkgbmgpdehmiiaaDoor
