import Derived.Test.YtkgbmgpdehmiiaaDoorV47
import Derived.WalkKit
import Derived.WalkSpells
import Derived.IntWalk
import Derived.Deep.Cut
import Derived.Deep.LoopGhost
import Derived.Laws.Cover1
import Derived.Lib.Hide
set_option linter.unusedVariables false
set_option linter.unusedSimpArgs false
set_option maxHeartbeats 64000000
set_option maxRecDepth 100000
namespace Go.Proofs.YtkgbmgpdehmiiaaDoor
open Go.RowKit Go.IntWalk
set_option linter.unusedVariables false
set_option linter.unusedSimpArgs false
theorem HRow.llAt2 {ok : Nat → Prop} {w : World} {v : Value} {l : List (List Int)} (h : HRow kLL ok w v l) :
    ∃ ao cap, v = .slice ao l.length cap ∧ l.length ≤ cap ∧ cap ≤ maxLen ∧ ∀ i (h : i < l.length), ∃ b o u, ao = some ⟨b, o, none⟩ ∧ b < w.heap.size ∧ ok b ∧ w.cell? ⟨b, o + i, none⟩ = some u ∧ HInts ok w u l[i] := by
  obtain ⟨C, ⟨ao, cap, hv, h1, h2, h3⟩, hC⟩ := h
  refine ⟨ao, cap, hv, h1, h2, fun i hi => ?_⟩
  obtain ⟨b, o, ha, hob, hb, hc⟩ := h3 (by omega)
  obtain ⟨u, e, hu⟩ := hC i hi
  have := (hc i hi).2 0 (by decide)
  rw [e] at this
  exact ⟨b, o, u, ha, hb, hob, by simpa [kLL] using this, hu⟩
theorem HRow.under' {α : Type} {T : Kind α} {ok : Nat → Prop} {w w' : World} {v : Value} {l : List α} (h : HRow T ok w v l) (b : Below w.heap.size w w') : HRow T ok w' v l := HRow.keep h b.size fun i _ hl => b.block i hl
theorem HLp.wide {ok ok' : Nat → Prop} {w : World} {aP aG aS : Option Addr} {cP cG cS : Nat} {L : Lo.Lp} (h : HLp ok w aP aG aS cP cG cS L) (hk : ∀ i, ok i → i < w.heap.size → ok' i) : HLp ok' w aP aG aS cP cG cS L := ⟨h.P.wide hk, h.G.wide hk, h.S.wide hk, h.W⟩
theorem Cd.steps_of {m : Cd.Im} (h : (Cd.fault m).1 = 0) {s : Em.St} (hp : (Em.allF m.l 0 s 0).p < 0) (sv : Int) : wrap64 (sv + (Em.allF m.l 0 s 0).st) = wrap64 (sv + m.cost) := by
  obtain ⟨-, -, -, -, -, -, h13, h14⟩ := Cd.good_of h
  obtain ⟨z, hz⟩ : ∃ z, Cd.go 10 11 none m.l = some z := by
    cases hg : Cd.go 10 11 none m.l with
    | none => exact absurd hg h14
    | some z => exact ⟨z, rfl⟩
  have hc : m.cost = z := by rw [h13, Cd.cost, hz]; rfl
  rw [Em.allF_steps m.l 0 s 0 z (by unfold I64; omega) hz hp, hc]
  unfold wrap64
  omega
/-- a row, its faults as one -/
theorem RowP.two {ok : Nat → Prop} {w : World} {vb : Nat} {P G : List Int} {C : List Cd.In} {f : Int → Bool} {nc : Nat} {M : List Int} {st : Int} {X : List Int} {e : Ending} {w' : World} (h : RowP ok w vb P G C f nc M st X e w') : (∃ k a : Int, k ≠ 0 ∧ e = .returned (.tuple #[.slice none 0 0, .agg #[.int .i64 k, .int .i64 a]]) ∧ Below w.heap.size w w') ∨ ((vfault f P X).1 = 0 ∧ (Em.allF C 0 ⟨fun _ => 0, Lo.putL M P X⟩ 0).p < 0) := by
  by_cases h1 : (vfault f P X).1 = 0
  · by_cases h2 : (Em.allF C 0 ⟨fun _ => 0, Lo.putL M P X⟩ 0).p < 0
    · exact .inr ⟨h1, h2⟩
    · exact .inl ⟨_, _, by decide, h.far h1 h2⟩
  · exact .inl ⟨_, _, h1, h.bad h1⟩
set_option maxHeartbeats 64000000 in
theorem vmCosts4_any {okL okR : Nat → Prop} {w : World} {aP aB aG aL : Option Addr} {cP cB cG cL : Nat} {m : Cd.Im} (hK : GlobK w) (hm : HIm okL w aP aB aG aL cP cB cG cL m) (hn : ∀ i ∈ m.l, I64 i.n) {aR : Option Addr} {cR : Nat} {R : List (List Int)} (hR : HRow kLL okR w (.slice aR R.length cR) R) (hRw : ∀ r ∈ R, Lo.Wd r) :
    Calls Tryd.prog 4 #[.agg #[.int .i64 m.c, .int .i64 m.R, .int .i64 m.cost, .slice aP m.P.length cP, .slice aB m.B.length cB, .slice aG m.G.length cG, .slice aL m.l.length cL], .slice aR R.length cR] w fun e w' => e = .returned (.bool true) ∧ Below w.heap.size w w' := by
  have hm0 : HIm (fun i => i < w.heap.size) w aP aB aG aL cP cB cG cL m := hm.wide fun _ _ h => h
  have hR0 : HRow kLL (fun i => i < w.heap.size) w (.slice aR R.length cR) R := HRow.wide hR fun _ _ h => h
  have b1 : Below w.heap.size w (w.alloc (.cells #[.int .i64 m.c, .int .i64 m.R, .int .i64 m.cost, .slice aP m.P.length cP, .slice aB m.B.length cB, .slice aG m.G.length cG, .slice aL m.l.length cL] 25 (0, 0))) := (Below.refl _ _).alloc (Nat.le_refl _) _
  have kL := heap_new w (.cells #[.int .i64 m.c, .int .i64 m.R, .int .i64 m.cost, .slice aP m.P.length cP, .slice aB m.B.length cB, .slice aG m.G.length cG, .slice aL m.l.length cL] 25 (0, 0))
  have HK := hide (fun W (b : Below w.heap.size w W) => hK.under b)
  have HNEW := hide (fun W (b : Below w.heap.size w W) => new10_any (hK.under b) (hm0.under b))
  have HR := hide hR0
  have HRw := hide hRw
  have HMW := hide (And.intro hm.W hn)
  clear hK hm hm0 hn hR hR0 hRw
  obtain ⟨mc, hmc⟩ : ∃ x, x = m.c := ⟨_, rfl⟩
  obtain ⟨mR, hmR⟩ : ∃ x, x = m.R := ⟨_, rfl⟩
  obtain ⟨mk, hmk⟩ : ∃ x, x = m.cost := ⟨_, rfl⟩
  obtain ⟨np, hnp⟩ : ∃ x, x = m.P.length := ⟨_, rfl⟩
  obtain ⟨nb, hnb⟩ : ∃ x, x = m.B.length := ⟨_, rfl⟩
  obtain ⟨ng, hng⟩ : ∃ x, x = m.G.length := ⟨_, rfl⟩
  obtain ⟨ln, hln⟩ : ∃ x, x = m.l.length := ⟨_, rfl⟩
  obtain ⟨nR, hnR⟩ : ∃ x, x = R.length := ⟨_, rfl⟩
  rw [← hmc, ← hmR, ← hmk, ← hnp, ← hnb, ← hng, ← hln] at b1 kL HNEW ⊢
  rw [← hnR] at HR ⊢
  have HMK := hide hmk
  have HNR := hide hnR
  clear hmc hmR hmk hnp hnb hng hln hnR
  go_enter Tryd.func4, Tryd.ntmps4
  go_upto_region 1 with fail
  generalize (w.alloc (.cells #[.int .i64 mc, .int .i64 mR, .int .i64 mk, .slice aP np cP, .slice aB nb cB, .slice aG ng cG, .slice aL ln cL] 25 (0, 0))) = w1 at b1 kL ⊢
  go_wp2_with fail
  refine (vmBegun5_any (HK.out _ b1)).mono ?_
  rintro e w2 ⟨rfl, b2⟩
  have B2 := b1.trans (b2.mono b1.size)
  have kL2 := (b2.block _ (lt_of kL)).trans kL
  have s0 := cell_of kL2 0
  have s1 := cell_of kL2 1
  have s2 := cell_of kL2 2
  have s3 := cell_of kL2 3
  have s4 := cell_of kL2 4
  have s5 := cell_of kL2 5
  have s6 := cell_of kL2 6
  simp at s0 s1 s2 s3 s4 s5 s6
  go_wp2_with fail
  refine (great6_any _ _ _ _).mono ?_
  rintro e w3 ⟨rfl, b3⟩
  have B3 := B2.trans (b3.mono B2.size)
  have kL3 := (b3.block _ (lt_of kL2)).trans kL2
  clear s0 s1 s2 s3 s4 s5 s6 kL kL2 b1 b2 b3
  have s0 := cell_of kL3 0
  have s1 := cell_of kL3 1
  have s2 := cell_of kL3 2
  have s3 := cell_of kL3 3
  have s4 := cell_of kL3 4
  have s5 := cell_of kL3 5
  have s6 := cell_of kL3 6
  simp at s0 s1 s2 s3 s4 s5 s6
  generalize (decide (7000 < (np : Int)) || decide (7000 < (nb : Int)) || decide (20000 < (ng : Int)) || decide (20000 < (ln : Int))) = q
  cases q
  case true =>
    go_wp2
    go_ret
    exact ⟨rfl, B3⟩
  case false =>
    go_wp2_with fail
    refine (rowsGreat2_any (HRow.under' HR.out B3)).mono ?_
    intro e w4 hp
    obtain ⟨q, ee, hb, b4⟩ := hp.out
    have B4 := B3.trans (b4.mono B3.size)
    have kL4 := (b4.block _ (lt_of kL3)).trans kL3
    clear s0 s1 s2 s3 s4 s5 s6 kL3 hp b4 B3
    subst ee
    have s0 := cell_of kL4 0
    have s1 := cell_of kL4 1
    have s2 := cell_of kL4 2
    have s3 := cell_of kL4 3
    have s4 := cell_of kL4 4
    have s5 := cell_of kL4 5
    have s6 := cell_of kL4 6
    simp at s0 s1 s2 s3 s4 s5 s6
    cases q
    case true =>
      go_wp2
      go_ret
      exact ⟨rfl, B4⟩
    case false =>
      obtain ⟨h60, -⟩ := hb rfl
      have hR60 : nR ≤ 60 := by have := HNR.out; omega
      clear hb h60
      by_cases hk2 : 20000 < mk
      case pos =>
        go_wp2
        go_ret
        exact ⟨rfl, B4⟩
      case neg =>
        by_cases hz : (Cd.fault m).1 = 0
        case neg =>
          obtain ⟨f1, hf1⟩ : ∃ x, x = (Cd.fault m).1 := ⟨_, rfl⟩
          obtain ⟨f2, hf2⟩ : ∃ x, x = (Cd.fault m).2 := ⟨_, rfl⟩
          have HB := hide (fun e W W' (h : NewP W m e W') => (show e = .returned (.tuple #[.pointer none, .agg #[.int .i64 f1, .int .i64 f2]]) by rw [hf1, hf2]; exact h.bad hz))
          have hf0 : f1 ≠ 0 := by rw [hf1]; exact hz
          have hfb : (f1 != 0) = true := by simpa using hf0
          have e1 : (f1 == f1) = true := by simp
          have e2 : (f2 == f2) = true := by simp
          clear hz hf1 hf2 hf0
          go_wp2_with fail
          refine (HNEW.out _ B4).mono ?_
          rintro e w5 hp
          have ee := HB.out _ _ _ hp
          have B5 := B4.trans (hp.b.mono B4.size)
          have kL5 := (hp.b.block _ (lt_of kL4)).trans kL4
          clear hp B4 kL4 s0 s1 s2 s3 s4 s5 s6
          subst ee
          have b6 : Below w5.heap.size w5 (w5.alloc (.cells #[.int .i64 f1, .int .i64 f2] 34 (0, 0))) := (Below.refl _ _).alloc (Nat.le_refl _) _
          have k6 := heap_new w5 (.cells #[.int .i64 f1, .int .i64 f2] 34 (0, 0))
          go_upto_region 6 with fail
          generalize w5.alloc (.cells #[.int .i64 f1, .int .i64 f2] 34 (0, 0)) = w6 at b6 k6 ⊢
          have B6 := B5.trans (b6.mono B5.size)
          have kL6 := (b6.block _ (lt_of kL5)).trans kL5
          have s0 := cell_of kL6 0
          have s1 := cell_of kL6 1
          have s2 := cell_of kL6 2
          have s3 := cell_of kL6 3
          have s4 := cell_of kL6 4
          have s5 := cell_of kL6 5
          have s6 := cell_of kL6 6
          simp at s0 s1 s2 s3 s4 s5 s6
          go_wp2_with fail
          refine (HNEW.out _ B6).mono ?_
          rintro e w7 hp
          have ee := HB.out _ _ _ hp
          have B7 := B6.trans (hp.b.mono B6.size)
          have k7 := (hp.b.block _ (lt_of k6)).trans k6
          clear hp B6 kL6 k6 s0 s1 s2 s3 s4 s5 s6 B5 kL5
          subst ee
          have b8 : Below w7.heap.size w7 (w7.alloc (.cells #[.int .i64 f1, .int .i64 f2] 34 (0, 0))) := (Below.refl _ _).alloc (Nat.le_refl _) _
          have k8 := heap_new w7 (.cells #[.int .i64 f1, .int .i64 f2] 34 (0, 0))
          go_upto_region 7 with fail
          generalize w7.alloc (.cells #[.int .i64 f1, .int .i64 f2] 34 (0, 0)) = w8 at b8 k8 ⊢
          have B8 := B7.trans (b8.mono B7.size)
          have k78 := (b8.block _ (lt_of k7)).trans k7
          have p0 := cell_of k78 0
          have p1 := cell_of k78 1
          simp at p0 p1
          have q0 := cell_of k8 0
          have q1 := cell_of k8 1
          simp at q0 q1
          go_wp2
          go_ret
          exact ⟨rfl, B8⟩
        case pos =>
          have HZ := hide hz
          obtain ⟨nc, nr, hr1, hr2, hr3, hr4, hr5, hr6, hr7, hr8, hr9, hr10, hr11⟩ := Cd.row_of hz HMW.out.1 HMW.out.2
          have HRO := hide (And.intro hr4 (And.intro hr5 (And.intro hr6 (And.intro hr7 (And.intro hr8 (And.intro hr9 (And.intro hr10 hr11)))))))
          have HB := hide (fun e W W' (h : NewP W m e W') => (show ∃ vb, W.heap.size ≤ vb ∧ e = .returned (.tuple #[.pointer (some ⟨vb, 0, none⟩), .agg #[.int .i64 0, .int .i64 0]]) ∧ VAt (fun i => W.heap.size ≤ i ∧ i ≠ vb) W' vb m.P m.G m.l (fun j => decide (j ∈ m.B)) nc (List.replicate nc 0) 0 by have h1 := h.good hz; rw [hr2] at h1; exact h1))
          clear hz hr1 hr2 hr4 hr5 hr6 hr7 hr8 hr9 hr10 hr11 HMW
          go_wp2_with fail
          refine (HNEW.out _ B4).mono ?_
          rintro e w5 hp
          obtain ⟨vb, zv, ee, hv⟩ := HB.out _ _ _ hp
          have B5 := B4.trans (hp.b.mono B4.size)
          have kL5 := (hp.b.block _ (lt_of kL4)).trans kL4
          have z4 := lt_of kL4
          have zB4 := B4.size
          have hvl := hv.lt
          have HV5 := hide hv
          clear hp B4 kL4 s0 s1 s2 s3 s4 s5 s6 hv
          subst ee
          have b6 : Below w5.heap.size w5 (w5.alloc (.cells #[.int .i64 0, .int .i64 0] 34 (0, 0))) := (Below.refl _ _).alloc (Nat.le_refl _) _
          have k6 := heap_new w5 (.cells #[.int .i64 0, .int .i64 0] 34 (0, 0))
          go_upto_region 6 with fail
          generalize w5.alloc (.cells #[.int .i64 0, .int .i64 0] 34 (0, 0)) = w6 at b6 k6 ⊢
          have B6 := B5.trans (b6.mono B5.size)
          have kL6 := (b6.block _ (lt_of kL5)).trans kL5
          have HV6 := hide (HV5.out.below b6)
          have z56 := b6.size
          clear HV5 b6 B5 kL5
          have s0 := cell_of kL6 0
          have s1 := cell_of kL6 1
          have s2 := cell_of kL6 2
          have s3 := cell_of kL6 3
          have s4 := cell_of kL6 4
          have s5 := cell_of kL6 5
          have s6 := cell_of kL6 6
          simp at s0 s1 s2 s3 s4 s5 s6
          go_wp2_with fail
          refine (HNEW.out _ B6).mono ?_
          rintro e w7 hp
          obtain ⟨ub, zu, ee, hu⟩ := HB.out _ _ _ hp
          have B7 := B6.trans (hp.b.mono B6.size)
          have kL7 := (hp.b.block _ (lt_of kL6)).trans kL6
          have k7 := (hp.b.block _ (lt_of k6)).trans k6
          have hvu : vb ≠ ub := by omega
          have hub := hu.lt
          have hv7 : VAt (fun i => i ≠ vb ∧ i ≠ ub) w7 vb m.P m.G m.l (fun j => decide (j ∈ m.B)) nc (List.replicate nc 0) 0 := (HV6.out.wide (ok' := (fun i => i ≠ vb ∧ i ≠ ub)) (fun i h hl => ⟨h.2, by omega⟩)).below hp.b
          have hu7 : VAt (fun i => i ≠ vb ∧ i ≠ ub) w7 ub m.P m.G m.l (fun j => decide (j ∈ m.B)) nc (List.replicate nc 0) 0 := hu.wide (fun i h _ => ⟨by omega, h.2⟩)
          have HV7 := hide (And.intro hv7 hu7)
          clear hp HV6 hv7 hu7 hu B6 kL6 k6 s0 s1 s2 s3 s4 s5 s6 HB HNEW
          subst ee
          have b8 : Below w7.heap.size w7 (w7.alloc (.cells #[.int .i64 0, .int .i64 0] 34 (0, 0))) := (Below.refl _ _).alloc (Nat.le_refl _) _
          have k8 := heap_new w7 (.cells #[.int .i64 0, .int .i64 0] 34 (0, 0))
          go_upto_region 7 with fail
          generalize w7.alloc (.cells #[.int .i64 0, .int .i64 0] 34 (0, 0)) = w8 at b8 k8 ⊢
          have B8 := B7.trans (b8.mono B7.size)
          have kL8 := (b8.block _ (lt_of kL7)).trans kL7
          have k78 := (b8.block _ (lt_of k7)).trans k7
          have HLI := hide (And.intro (HV7.out.1.below b8) (And.intro (HV7.out.2.below b8) (show Lo.Wd (List.replicate nc (0 : Int)) from fun x hx => by rw [List.eq_of_mem_replicate hx]; unfold I64; omega)))
          have z78 := b8.size
          have zz8 : w.heap.size < w8.heap.size := lt_of kL8
          have hv8 := HLI.out.1.lt
          have hu8 := HLI.out.2.1.lt
          have p0 := cell_of k78 0
          have p1 := cell_of k78 1
          simp at p0 p1
          have q0 := cell_of k8 0
          have q1 := cell_of k8 1
          simp at q0 q1
          have HRR := hide (fun W (a : Aside [vb, ub] w8.heap.size w8 W) => (HRow.keep (HRow.under' HR.out B8) a.size (fun j hj hl => a.block j hl (by simp; omega)) : HRow kLL (fun i => i < w.heap.size) W (.slice aR nR cR) R))
          have HKL := hide (fun W (a : Aside [vb, ub] w8.heap.size w8 W) => (a.block w.heap.size (lt_of kL8) (by simp; omega)).trans kL8)
          have HBE := hide (fun W (a : Aside [vb, ub] w8.heap.size w8 W) => (B8.trans ⟨a.os, a.tape, a.output, a.size, fun k hk => a.block k (Nat.lt_of_lt_of_le hk B8.size) (by simp; omega)⟩ : Below w.heap.size w W))
          clear HV7 b8 B8 B7 kL8 kL7 HR
          go_wp2_with fail
          go_loopg [9] nR (fun kz v9 wr => ∃ (i : Nat) (M : List Int) (sv su : Int), i ≤ nR ∧ kz = nR - i ∧ v9 = .int .i64 (i : Nat) ∧ Hid (VAt (fun i => i ≠ vb ∧ i ≠ ub) wr vb m.P m.G m.l (fun j => decide (j ∈ m.B)) nc M sv ∧ VAt (fun i => i ≠ vb ∧ i ≠ ub) wr ub m.P m.G m.l (fun j => decide (j ∈ m.B)) nc M su ∧ Lo.Wd M) ∧ Aside [vb, ub] w8.heap.size w8 wr)
          case atStart => exact ⟨0, List.replicate nc 0, 0, 0, Nat.zero_le _, rfl, rfl, HLI, Aside.refl _⟩
          case round =>
            clear HLI p0 p1 q0 q1 k7 k8 k78
            obtain ⟨i, M, sv, su, hi, rfl, rfl, HS, ab⟩ := hrel
            by_cases hlt : i < nR
            case neg =>
              have hncs : ¬ (i : Int) < (nR : Int) := by omega
              have BE := HBE.out _ ab
              clear HS HRR HKL HBE
              go_wp2
              go_ret
              exact ⟨rfl, BE⟩
            case pos =>
              have hil : (i : Int) < (nR : Int) := by omega
              obtain ⟨aU, cU, eU, -, -, hatU⟩ := (HRR.out wr ab).llAt2
              injection eU with r1 r2 r3
              have hiR : i < R.length := by have := HNR.out; omega
              obtain ⟨bU, oU, u, eaU, yU, nU, e0, hIu⟩ := hatU i hiR
              rw [eaU] at r1
              have hww := HRw.out R[i] (List.getElem_mem _)
              generalize R[i] = X at hIu hww
              obtain ⟨aI, cI, rfl, -, -, -⟩ := hIu.at
              subst r1
              clear hatU r2 r3 hiR
              obtain ⟨hv, hu, hWM⟩ := HS.out
              have HC1 := hide (cells_at hv hr3)
              have HC2 := hide (fun W (b : Below wr.heap.size wr W) => steps_at (hv.below b))
              have HVR := hide (fun W (b : Below wr.heap.size wr W) => (row13_any (hv.below b) (fun i h => h.1) (fun i h => (by have := b.size; have := hv.lt; have := hu.lt; constructor <;> omega)) (hIu.below b) hr3 HRO.out.1 HRO.out.2.1 HRO.out.2.2.1 hWM hww HRO.out.2.2.2.1 HRO.out.2.2.2.2.1 HRO.out.2.2.2.2.2.1 HRO.out.2.2.2.2.2.2.1 HRO.out.2.2.2.2.2.2.2))
              obtain ⟨nx, hnx⟩ : ∃ x, x = X.length := ⟨_, rfl⟩
              rw [← hnx] at e0 HVR
              have hIx : HInts (fun j => j < w.heap.size) wr (.slice aI nx cI) X := by rw [hnx]; exact hIu
              have HXI := hide (And.intro hIx (And.intro hww hnx))
              have zr := ab.size
              have hvr := hv.lt
              have hur := hu.lt
              clear hv hu hWM hIu hIx hww hnx
              go_wp2_with fail
              refine HC1.out.mono ?_
              rintro e w9 ⟨aW, cW, rfl, hW9, b9⟩
              have HW9 := hide hW9
              clear hW9 HC1
              go_wp2_with fail
              refine (HC2.out _ b9).mono ?_
              rintro e w10 ⟨rfl, b10⟩
              have b10r := b9.trans (b10.mono b9.size)
              have HW10 := hide (HW9.out.below b10)
              have e10 := (b10r.cell (p := ⟨bU, oU + i, none⟩) yU).trans e0
              have y10 := Nat.lt_of_lt_of_le yU b10r.size
              have HROW := hide (HVR.out _ b10r)
              clear HC2 HVR HW9 e0 b9 b10
              go_wp2_with fail
              refine HROW.out.mono ?_
              intro e w11 hp
              clear HROW
              have z10 := b10r.size
              rcases hp.two with ⟨k, a, hk0, ee, b11⟩ | ⟨hf, hpp⟩
              · have hkb : (k != 0) = true := by simpa using hk0
                have b11r := b10r.trans (b11.mono b10r.size)
                have HW11 := hide (HW10.out.below b11)
                have b12 : Below w11.heap.size w11 (w11.alloc (.cells #[.int .i64 k, .int .i64 a] 34 (0, 0))) := (Below.refl _ _).alloc (Nat.le_refl _) _
                have k12 := heap_new w11 (.cells #[.int .i64 k, .int .i64 a] 34 (0, 0))
                subst ee
                clear hp e10 hk0 b10r b11 HW10
                go_upto_region 14 with fail
                generalize w11.alloc (.cells #[.int .i64 k, .int .i64 a] 34 (0, 0)) = w12 at b12 k12 ⊢
                have b12r := b11r.trans (b12.mono b11r.size)
                have HW12 := hide (HW11.out.below b12)
                have d0 := cell_of k12 0
                have d1 := cell_of k12 1
                simp at d0 d1
                have hss : (sv != sv) = false := by simp
                have HC3 := hide (steps_at (HS.out.1.below b12r))
                clear b12 HW11 b11r
                go_wp2_with fail
                refine HC3.out.mono ?_
                rintro e w13 ⟨rfl, b13⟩
                have b13r := b12r.trans (b13.mono b12r.size)
                have HC4 := hide (cells_at (HS.out.1.below b13r) hr3)
                have HW13 := hide (HW12.out.below b13)
                clear HC3 d0 d1 k12 b13 b12r HW12
                go_wp2_with fail
                refine HC4.out.mono ?_
                rintro e w14 ⟨aV, cV, rfl, hV14, b14⟩
                have b14r := b13r.trans (b14.mono b13r.size)
                have HC5 := hide (sameLongs_same hV14 (HW13.out.below b14))
                clear HC4 hV14 HW13 b14 b13r
                go_wp2_with fail
                refine HC5.out.mono ?_
                rintro e w15 ⟨rfl, b15⟩
                have b15r := b14r.trans (b15.mono b14r.size)
                clear HC5 b15 b14r
                go_wp2_with fail
                go_roundg (nR - (i + 1))
                case measure => omega
                case rel => exact ⟨i + 1, M, sv, su, by omega, rfl, by go_num, hide ⟨HS.out.1.below b15r, HS.out.2.1.below b15r, HS.out.2.2⟩, ab.trans (aside (S := [vb, ub]) b15r) ab.size⟩
              · obtain ⟨v, ee, own, hv11, hWM11, a11⟩ := hp.good hf hpp
                obtain ⟨av, cv, rfl, -, -⟩ := own.form
                obtain ⟨res, hres⟩ : ∃ x, x = Em.allF m.l 0 ⟨fun _ => 0, Lo.putL M m.P X⟩ 0 := ⟨_, rfl⟩
                have hsteps := Cd.steps_of HZ.out hpp sv
                rw [← hres, ← HMK.out] at hsteps
                rw [← hres] at own hv11 hWM11 ee
                obtain ⟨T, hT⟩ : ∃ T, T = m.G.map fun g => Lo.rd res.s.M g := ⟨_, rfl⟩
                rw [← hT] at own ee
                obtain ⟨nt, hnt⟩ : ∃ x, x = T.length := ⟨_, rfl⟩
                rw [← hnt] at own ee
                have hoT : HInts (fun i => w10.heap.size ≤ i) w11 (.slice av nt cv) T := HRow.wide own.row (fun i h _ => h)
                have a11b : Aside [vb, ub] w10.heap.size w10 w11 := a11.wide (fun k _ h => by simp at h ⊢; exact h.1)
                have A10 := ab.trans (aside (S := [vb, ub]) b10r) ab.size
                have A11 := A10.trans a11b A10.size
                have hu11 : VAt (fun i => i ≠ vb ∧ i ≠ ub) w11 ub m.P m.G m.l (fun j => decide (j ∈ m.B)) nc M su := (HS.out.2.1.below b10r).keep a11.size (fun j hj hl => a11.block j hl (by simpa using hj.1)) (a11.block _ (Nat.lt_of_lt_of_le hur z10) (by simpa using hvu.symm))
                have hX11 : HInts (fun j => j < w.heap.size) w11 (.slice aI nx cI) X := (HXI.out.1.below b10r).keep a11.size (fun j hj hl => a11.block j hl (by simp; omega))
                have e11 := (aside_cell a11 (p := ⟨bU, oU + i, none⟩) y10 (by simp; omega)).trans e10
                have y11 := Nat.lt_of_lt_of_le y10 a11.size
                have b12 : Below w11.heap.size w11 (w11.alloc (.cells #[.int .i64 0, .int .i64 0] 34 (0, 0))) := (Below.refl _ _).alloc (Nat.le_refl _) _
                have k12 := heap_new w11 (.cells #[.int .i64 0, .int .i64 0] 34 (0, 0))
                have hv11l := hv11.lt
                have hu11l := hu11.lt
                have HV11 := hide hv11
                have HT11 := hide hoT
                have HF := hide (And.intro hf hpp)
                have HRES := hide hres
                have HT := hide hT
                have HWM := hide hWM11
                have z11 := a11.size
                subst ee
                clear hp own hv11 hWM11 hoT a11 a11b hf hpp hres hT hnt A10 e10 b10r HW10
                go_upto_region 14 with fail
                generalize w11.alloc (.cells #[.int .i64 0, .int .i64 0] 34 (0, 0)) = w12 at b12 k12 ⊢
                have A12 := A11.trans (aside (S := [vb, ub]) b12) A11.size
                have HV12 := hide (HV11.out.below b12)
                have HT12 := hide (HT11.out.below b12)
                have hu12 := hu11.below b12
                have hX12 := hX11.below b12
                have e12 := (b12.cell (p := ⟨bU, oU + i, none⟩) y11).trans e11
                have y12 := Nat.lt_of_lt_of_le y11 b12.size
                have d0 := cell_of k12 0
                have d1 := cell_of k12 1
                simp at d0 d1
                have z12 := b12.size
                have hrow2 := row13_any hu12 (fun i h => h.2) (fun i h => (by constructor <;> omega)) (show HInts (fun j => j < w.heap.size) w12 (.slice aI X.length cI) X by rw [← HXI.out.2.2]; exact hX12) hr3 HRO.out.1 HRO.out.2.1 HRO.out.2.2.1 HS.out.2.2 HXI.out.2.1 HRO.out.2.2.2.1 HRO.out.2.2.2.2.1 HRO.out.2.2.2.2.2.1 HRO.out.2.2.2.2.2.2.1 HRO.out.2.2.2.2.2.2.2
                rw [← HXI.out.2.2] at hrow2
                have HROW2 := hide hrow2
                clear hrow2 hu11 hu12 hX11 hX12 e11 HV11 HT11 A11 b12
                go_wp2_with fail
                refine HROW2.out.mono ?_
                intro e w13 hp
                obtain ⟨v2, ee, own2, hu13, hWM13, a13⟩ := hp.good HF.out.1 HF.out.2
                obtain ⟨av2, cv2, rfl, -, -⟩ := own2.form
                rw [← HRES.out] at own2 hu13 ee
                rw [← HT.out] at own2 ee
                obtain ⟨nt2, hnt2⟩ : ∃ x, x = T.length := ⟨_, rfl⟩
                rw [← hnt2] at own2 ee
                have hoT2 : HInts (fun i => w12.heap.size ≤ i) w13 (.slice av2 nt2 cv2) T := HRow.wide own2.row (fun i h _ => h)
                have a13b : Aside [vb, ub] w12.heap.size w12 w13 := a13.wide (fun k _ h => by simp at h ⊢; exact h.2)
                have A13 := A12.trans a13b A12.size
                have hv13 := HV12.out.keep a13.size (fun j hj hl => a13.block j hl (by simpa using hj.2)) (a13.block _ (by omega) (by simpa using hvu))
                have hT13 := HT12.out.keep a13.size (fun j hj hl => a13.block j hl (by simp; omega))
                have b14 : Below w13.heap.size w13 (w13.alloc (.cells #[.int .i64 0, .int .i64 0] 34 (0, 0))) := (Below.refl _ _).alloc (Nat.le_refl _) _
                have k14 := heap_new w13 (.cells #[.int .i64 0, .int .i64 0] 34 (0, 0))
                have HV13 := hide hv13
                have HU13 := hide hu13
                have HTT := hide (And.intro hT13 hoT2)
                subst ee
                clear hp own2 hu13 hWM13 hoT2 a13 a13b hv13 hT13 hnt2 HROW2 HV12 HT12 A12 e12 d0 d1 k12
                go_upto_region 18 with fail
                generalize w13.alloc (.cells #[.int .i64 0, .int .i64 0] 34 (0, 0)) = w14 at b14 k14 ⊢
                have A14 := A13.trans (aside (S := [vb, ub]) b14) A13.size
                have HV14 := hide (HV13.out.below b14)
                have HU14 := hide (HU13.out.below b14)
                have HSL1 := hide (fun W (b : Below w14.heap.size w14 W) => sameLongs_same ((HTT.out.1.below b14).below b) ((HTT.out.2.below b14).below b))
                have HST := hide (fun W (b : Below w14.heap.size w14 W) => steps_at (HV14.out.below b))
                have HCV := hide (fun W (b : Below w14.heap.size w14 W) => cells_at (HV14.out.below b) hr3)
                have HCU := hide (fun W (b : Below w14.heap.size w14 W) => cells_at (HU14.out.below b) hr3)
                have kL14 := HKL.out _ A14
                have d0 := cell_of k14 0
                have d1 := cell_of k14 1
                simp at d0 d1
                have s0 := cell_of kL14 0
                have s1 := cell_of kL14 1
                have s2 := cell_of kL14 2
                have s3 := cell_of kL14 3
                have s4 := cell_of kL14 4
                have s5 := cell_of kL14 5
                have s6 := cell_of kL14 6
                simp at s0 s1 s2 s3 s4 s5 s6
                have y14 := lt_of k14
                have yL14 := lt_of kL14
                have hsb : (wrap64 (sv + res.st) != IntKind.i64.wrap (sv + mk)) = false := by rw [i64_left, hsteps]; simp
                have hsb2 : (wrap64 (sv + res.st) != wrap64 (sv + mk)) = false := by rw [hsteps]; simp
                clear b14 A13 HV13 HU13 HTT
                refine wp_region_late (fun w' => Below w14.heap.size w14 w') (fun _ => false) (by kernel_rfl) ?_
                have hH0 : Below w14.heap.size w14 w14.drew := (Below.refl _ _).drew
                generalize w14.drew = wd0 at hH0 ⊢
                refine' wpAnyL_take (i := 0) (oi := ⟨some 97, _, _, _, _, _⟩) (v := _) rfl (by kernel_rfl) (by kernel_rfl) (by kernel_rfl) (by kernel_rfl) (fun _ _ _ h => h) hH0 (by rfl) ?hyv ?onw
                case hyv =>
                  intro wz hSw
                  go_simp
                  try rfl
                case onw =>
                  try simp only [Act.put, List.setIfInBounds_toArray, List.set_cons_zero, List.set_cons_succ]
                  refine' wpAnyL_take (i := 2) (oi := ⟨some 99, _, _, _, _, _⟩) (v := _) rfl (by kernel_rfl) (by kernel_rfl) (by kernel_rfl) (by kernel_rfl) (fun _ _ _ h => h) hH0 (by rfl) ?hyv ?onw
                  case hyv =>
                    intro wz hSw
                    go_simp
                    try rfl
                  case onw =>
                    try simp only [Act.put, List.setIfInBounds_toArray, List.set_cons_zero, List.set_cons_succ]
                    refine' wpAnyL_take (i := 3) (oi := ⟨some 100, _, _, _, _, _⟩) (v := _) rfl (by kernel_rfl) (by kernel_rfl) (by kernel_rfl) (by kernel_rfl) (fun _ _ _ h => h) hH0 (by rfl) ?hyv ?onw
                    case hyv =>
                      intro wz hSw
                      go_simp
                      try rfl
                    case onw =>
                      try simp only [Act.put, List.setIfInBounds_toArray, List.set_cons_zero, List.set_cons_succ]
                      refine' wpAnyL_take (i := 4) (oi := ⟨some 101, _, _, _, _, _⟩) (v := _) rfl (by kernel_rfl) (by kernel_rfl) (by kernel_rfl) (by kernel_rfl) (fun _ _ _ h => h) hH0 (by rfl) ?hyv ?onw
                      case hyv =>
                        intro wz hSw
                        have zc0 := (hSw.cell (p := ⟨w13.heap.size, 0, none⟩) y14).trans d0
                        have zc1 := (hSw.cell (p := ⟨w.heap.size, 2, none⟩) yL14).trans s2
                        go_simp
                        try rfl
                      case onw =>
                        try simp only [Act.put, List.setIfInBounds_toArray, List.set_cons_zero, List.set_cons_succ]
                        refine' wpAnyL_take (i := 5) (oi := ⟨some 102, _, _, _, _, _⟩) (v := _) rfl (by kernel_rfl) (by kernel_rfl) (by kernel_rfl) (by kernel_rfl) (fun _ _ _ h => h) hH0 (by rfl) ?hyv ?onw
                        case hyv =>
                          intro wz hSw
                          go_simp
                          try rfl
                        case onw =>
                          try simp only [Act.put, List.setIfInBounds_toArray, List.set_cons_zero, List.set_cons_succ]
                          refine wpAnyL_one (i := 1) (o := _) rfl (by kernel_rfl) (by rfl) (fun K hK => ?_)
                          go_simp
                          refine (HST.out wd0 hH0).mono ?_
                          rintro eq wd1 ⟨rfl, bq1⟩
                          have hH1 : Below w14.heap.size w14 wd1 := hH0.trans (bq1.mono hH0.size)
                          refine hK.out _ _ (fun _ => hH1) ?_
                          clear hK K
                          try simp only [Act.put, List.setIfInBounds_toArray, List.set_cons_zero, List.set_cons_succ]
                          refine' wpAnyL_take (i := 6) (oi := ⟨some 103, _, _, _, _, _⟩) (v := .bool false) rfl (by kernel_rfl) (by kernel_rfl) (by kernel_rfl) (by kernel_rfl) (fun _ _ _ h => h) hH1 (by rfl) ?hyv ?onw
                          case hyv =>
                            intro wz hSw
                            go_simp
                            first | rfl | exact (i64_left _).symm | (rw [hsb]; rfl) | (rw [hsb2]; rfl) | trace_state
                          case onw =>
                            try simp only [Act.put, List.setIfInBounds_toArray, List.set_cons_zero, List.set_cons_succ]
                            refine' wpAnyL_take (i := 7) (oi := ⟨some 104, _, _, _, _, _⟩) (v := _) rfl (by kernel_rfl) (by kernel_rfl) (by kernel_rfl) (by kernel_rfl) (fun _ _ _ h => h) hH1 (by rfl) ?hyv ?onw
                            case hyv =>
                              intro wz hSw
                              go_simp
                              try rfl
                            case onw =>
                              try simp only [Act.put, List.setIfInBounds_toArray, List.set_cons_zero, List.set_cons_succ]
                              refine' wpAnyL_take (i := 8) (oi := ⟨some 105, _, _, _, _, _⟩) (v := _) rfl (by kernel_rfl) (by kernel_rfl) (by kernel_rfl) (by kernel_rfl) (fun _ _ _ h => h) hH1 (by rfl) ?hyv ?onw
                              case hyv =>
                                intro wz hSw
                                go_simp
                                try rfl
                              case onw =>
                                try simp only [Act.put, List.setIfInBounds_toArray, List.set_cons_zero, List.set_cons_succ]
                                refine' wpAnyL_take (i := 9) (oi := ⟨some 106, _, _, _, _, _⟩) (v := _) rfl (by kernel_rfl) (by kernel_rfl) (by kernel_rfl) (by kernel_rfl) (fun _ _ _ h => h) hH1 (by rfl) ?hyv ?onw
                                case hyv =>
                                  intro wz hSw
                                  have zc0 := (hSw.cell (p := ⟨w13.heap.size, 0, none⟩) y14).trans d0
                                  have zc1 := (hSw.cell (p := ⟨w.heap.size, 2, none⟩) yL14).trans s2
                                  go_simp
                                  try rfl
                                case onw =>
                                  try simp only [Act.put, List.setIfInBounds_toArray, List.set_cons_zero, List.set_cons_succ]
                                  refine' wpAnyL_take (i := 10) (oi := ⟨some 107, _, _, _, _, _⟩) (v := _) rfl (by kernel_rfl) (by kernel_rfl) (by kernel_rfl) (by kernel_rfl) (fun _ _ _ h => h) hH1 (by rfl) ?hyv ?onw
                                  case hyv =>
                                    intro wz hSw
                                    go_simp
                                    try rfl
                                  case onw =>
                                    try simp only [Act.put, List.setIfInBounds_toArray, List.set_cons_zero, List.set_cons_succ]
                                    refine' wpAnyL_take (i := 11) (oi := ⟨some 108, _, _, _, _, _⟩) (v := _) rfl (by kernel_rfl) (by kernel_rfl) (by kernel_rfl) (by kernel_rfl) (fun _ _ _ h => h) hH1 (by rfl) ?hyv ?onw
                                    case hyv =>
                                      intro wz hSw
                                      go_simp
                                      try rfl
                                    case onw =>
                                      try simp only [Act.put, List.setIfInBounds_toArray, List.set_cons_zero, List.set_cons_succ]
                                      refine' wpAnyL_take (i := 12) (oi := ⟨some 109, _, _, _, _, _⟩) (v := _) rfl (by kernel_rfl) (by kernel_rfl) (by kernel_rfl) (by kernel_rfl) (fun _ _ _ h => h) hH1 (by rfl) ?hyv ?onw
                                      case hyv =>
                                        intro wz hSw
                                        go_simp
                                        try rfl
                                      case onw =>
                                        try simp only [Act.put, List.setIfInBounds_toArray, List.set_cons_zero, List.set_cons_succ]
                                        refine' wpAnyL_take (i := 13) (oi := ⟨some 110, _, _, _, _, _⟩) (v := _) rfl (by kernel_rfl) (by kernel_rfl) (by kernel_rfl) (by kernel_rfl) (fun _ _ _ h => h) hH1 (by rfl) ?hyv ?onw
                                        case hyv =>
                                          intro wz hSw
                                          go_simp
                                          try rfl
                                        case onw =>
                                          try simp only [Act.put, List.setIfInBounds_toArray, List.set_cons_zero, List.set_cons_succ]
                                          refine' wpAnyL_take (i := 14) (oi := ⟨some 111, _, _, _, _, _⟩) (v := _) rfl (by kernel_rfl) (by kernel_rfl) (by kernel_rfl) (by kernel_rfl) (fun _ _ _ h => h) hH1 (by rfl) ?hyv ?onw
                                          case hyv =>
                                            intro wz hSw
                                            go_simp
                                            try rfl
                                          case onw =>
                                            try simp only [Act.put, List.setIfInBounds_toArray, List.set_cons_zero, List.set_cons_succ]
                                            refine wpAnyL_one (i := 15) (o := _) rfl (by kernel_rfl) (by rfl) (fun K hK => ?_)
                                            go_simp
                                            refine (HSL1.out wd1 hH1).mono ?_
                                            rintro eq wd2 ⟨rfl, bq2⟩
                                            have hH2 : Below w14.heap.size w14 wd2 := hH1.trans (bq2.mono hH1.size)
                                            refine hK.out _ _ (fun _ => hH2) ?_
                                            clear hK K
                                            try simp only [Act.put, List.setIfInBounds_toArray, List.set_cons_zero, List.set_cons_succ]
                                            refine' wpAnyL_take (i := 16) (oi := ⟨some 113, _, _, _, _, _⟩) (v := _) rfl (by kernel_rfl) (by kernel_rfl) (by kernel_rfl) (by kernel_rfl) (fun _ _ _ h => h) hH2 (by rfl) ?hyv ?onw
                                            case hyv =>
                                              intro wz hSw
                                              go_simp
                                              try rfl
                                            case onw =>
                                              try simp only [Act.put, List.setIfInBounds_toArray, List.set_cons_zero, List.set_cons_succ]
                                              refine' wpAnyL_take (i := 17) (oi := ⟨some 114, _, _, _, _, _⟩) (v := _) rfl (by kernel_rfl) (by kernel_rfl) (by kernel_rfl) (by kernel_rfl) (fun _ _ _ h => h) hH2 (by rfl) ?hyv ?onw
                                              case hyv =>
                                                intro wz hSw
                                                go_simp
                                                try rfl
                                              case onw =>
                                                try simp only [Act.put, List.setIfInBounds_toArray, List.set_cons_zero, List.set_cons_succ]
                                                refine' wpAnyL_take (i := 18) (oi := ⟨some 115, _, _, _, _, _⟩) (v := _) rfl (by kernel_rfl) (by kernel_rfl) (by kernel_rfl) (by kernel_rfl) (fun _ _ _ h => h) hH2 (by rfl) ?hyv ?onw
                                                case hyv =>
                                                  intro wz hSw
                                                  go_simp
                                                  try rfl
                                                case onw =>
                                                  try simp only [Act.put, List.setIfInBounds_toArray, List.set_cons_zero, List.set_cons_succ]
                                                  refine' wpAnyL_take (i := 19) (oi := ⟨some 116, _, _, _, _, _⟩) (v := _) rfl (by kernel_rfl) (by kernel_rfl) (by kernel_rfl) (by kernel_rfl) (fun _ _ _ h => h) hH2 (by rfl) ?hyv ?onw
                                                  case hyv =>
                                                    intro wz hSw
                                                    go_simp
                                                    try rfl
                                                  case onw =>
                                                    try simp only [Act.put, List.setIfInBounds_toArray, List.set_cons_zero, List.set_cons_succ]
                                                    refine' wpAnyL_take (i := 21) (oi := ⟨some 118, _, _, _, _, _⟩) (v := _) rfl (by kernel_rfl) (by kernel_rfl) (by kernel_rfl) (by kernel_rfl) (fun _ _ _ h => h) hH2 (by rfl) ?hyv ?onw
                                                    case hyv =>
                                                      intro wz hSw
                                                      go_simp
                                                      try rfl
                                                    case onw =>
                                                      try simp only [Act.put, List.setIfInBounds_toArray, List.set_cons_zero, List.set_cons_succ]
                                                      refine wpAnyL_one (i := 20) (o := _) rfl (by kernel_rfl) (by rfl) (fun K hK => ?_)
                                                      go_simp
                                                      refine (HCV.out wd2 hH2).mono ?_
                                                      rintro eq wd3 ⟨apv, cpv, rfl, hpv, bq3⟩
                                                      have hH3 : Below w14.heap.size w14 wd3 := hH2.trans (bq3.mono hH2.size)
                                                      refine hK.out _ _ (fun _ => hH3) ?_
                                                      clear hK K
                                                      try simp only [Act.put, List.setIfInBounds_toArray, List.set_cons_zero, List.set_cons_succ]
                                                      refine wpAnyL_one (i := 22) (o := _) rfl (by kernel_rfl) (by rfl) (fun K hK => ?_)
                                                      go_simp
                                                      refine (HCU.out wd3 hH3).mono ?_
                                                      rintro eq wd4 ⟨apu, cpu, rfl, hpu, bq4⟩
                                                      have hH4 : Below w14.heap.size w14 wd4 := hH3.trans (bq4.mono hH3.size)
                                                      have hpv_4 := hpv.below bq4
                                                      refine hK.out _ _ (fun _ => hH4) ?_
                                                      clear hK K
                                                      try simp only [Act.put, List.setIfInBounds_toArray, List.set_cons_zero, List.set_cons_succ]
                                                      refine wpAnyL_one (i := 23) (o := _) rfl (by kernel_rfl) (by rfl) (fun K hK => ?_)
                                                      go_simp
                                                      refine (sameLongs_same hpv_4 hpu).mono ?_
                                                      rintro eq wd5 ⟨rfl, bq5⟩
                                                      have hH5 : Below w14.heap.size w14 wd5 := hH4.trans (bq5.mono hH4.size)
                                                      have hpv_5 := hpv_4.below bq5
                                                      have hpu_5 := hpu.below bq5
                                                      refine hK.out _ _ (fun _ => hH5) ?_
                                                      clear hK K
                                                      try simp only [Act.put, List.setIfInBounds_toArray, List.set_cons_zero, List.set_cons_succ]
                                                      refine' wpAnyL_take (i := 24) (oi := ⟨some 121, _, _, _, _, _⟩) (v := _) rfl (by kernel_rfl) (by kernel_rfl) (by kernel_rfl) (by kernel_rfl) (fun _ _ _ h => h) hH5 (by rfl) ?hyv ?onw
                                                      case hyv =>
                                                        intro wz hSw
                                                        go_simp
                                                        try rfl
                                                      case onw =>
                                                        try simp only [Act.put, List.setIfInBounds_toArray, List.set_cons_zero, List.set_cons_succ]
                                                        refine' wpAnyL_take (i := 25) (oi := ⟨some 122, _, _, _, _, _⟩) (v := _) rfl (by kernel_rfl) (by kernel_rfl) (by kernel_rfl) (by kernel_rfl) (fun _ _ _ h => h) hH5 (by rfl) ?hyv ?onw
                                                        case hyv =>
                                                          intro wz hSw
                                                          go_simp
                                                          try rfl
                                                        case onw =>
                                                          try simp only [Act.put, List.setIfInBounds_toArray, List.set_cons_zero, List.set_cons_succ]
                                                          refine wpAnyL_done (by kernel_rfl) ?_ _
                                                          go_wp2_with fail
                                                          go_roundg (nR - (i + 1))
                                                          case measure => omega
                                                          case rel => exact ⟨i + 1, res.s.M, _, _, by omega, rfl, by go_num, hide ⟨HV14.out.below hH5, HU14.out.below hH5, HWM.out⟩, A14.trans (aside (S := [vb, ub]) hH5) A14.size⟩
end Go.Proofs.YtkgbmgpdehmiiaaDoor
