import Derived.Test.YtgjdkgkgbmbffaaDoorJ46
import Derived.Test.YtgjdkgkgbmbffaaDoorJ41
import Derived.Test.YtgjdkgkgbmbffaaDoorJ40
import Derived.Test.YtgjdkgkgbmbffaaDoorJ39
import Derived.Test.YtgjdkgkgbmbffaaDoorJ38
import Derived.Test.YtgjdkgkgbmbffaaDoorJ35
import Derived.Test.YtgjdkgkgbmbffaaDoorJ33
import Derived.WalkKit
import Derived.WalkSpells
import Derived.IntWalk
import Derived.Deep.Cut
import Derived.Deep.LoopGhost
import Derived.Laws.Cover1
import Derived.Lib.Hide
set_option linter.unusedVariables false
set_option linter.unusedSimpArgs false
set_option maxHeartbeats 64000000
set_option maxRecDepth 100000
namespace Go.Proofs.YtgjdkgkgbmbffaaDoor
open Go.RowKit Go.IntWalk
set_option linter.unusedVariables false
set_option linter.unusedSimpArgs false
theorem Lo.lens_of {L : Lo.Lp} (h : (Lo.fault L).1 = 0) : L.P.length ≤ 6000 ∧ L.G.length ≤ 120000 ∧ L.S.length ≤ 1200 := by
  unfold Lo.fault at h
  split at h
  · cases h
  split at h
  · cases h
  omega
set_option maxHeartbeats 32000000 in
theorem loopRows_any {ok okR : Nat → Prop} {w : World} {aP aG aS : Option Addr} {cP cG cS : Nat} {L : Lo.Lp} (hK : GlobK w) (hL : HLp ok w aP aG aS cP cG cS L) {aR : Option Addr} {cR : Nat} {R : List (List Int)} (hR : HRow kLL okR w (.slice aR R.length cR) R) (hRw : ∀ r ∈ R, Lo.Wd r) : Calls Tryd.prog 4 #[.agg #[.int .i64 L.c, .slice aP L.P.length cP, .slice aG L.G.length cG, .slice aS L.S.length cS], .slice aR R.length cR] w fun e w' => e = .returned (.bool true) ∧ Below w.heap.size w w' := by
  have b1 : Below w.heap.size w (w.alloc (.cells #[.int .i64 L.c, .slice aP L.P.length cP, .slice aG L.G.length cG, .slice aS L.S.length cS] 25 (0, 0))) := (Below.refl _ _).alloc (Nat.le_refl _) _
  have kL := heap_new w (.cells #[.int .i64 L.c, .slice aP L.P.length cP, .slice aG L.G.length cG, .slice aS L.S.length cS] 25 (0, 0))
  have HK := hide hK
  have HL := hide hL
  have HR := hide hR
  have HRw := hide hRw
  obtain ⟨aU, cU, eU, hu1, hu2, -⟩ := hR.llAt
  injection eU with z1 z2 z3
  subst z1 z3
  unfold maxLen at hu2
  clear hK hL hR hRw z2
  go_enter Tryd.func4, Tryd.ntmps4
  go_upto_region 1 with fail
  generalize (w.alloc (.cells #[.int .i64 L.c, .slice aP L.P.length cP, .slice aG L.G.length cG, .slice aS L.S.length cS] 25 (0, 0))) = w1 at b1 kL ⊢
  go_wp2_with fail
  refine (loopBegun5_any (HK.out.under b1)).mono ?_
  rintro e w2 ⟨rfl, b2⟩
  have B2 := b1.trans (b2.mono b1.size)
  have kL2 := (b2.block _ (lt_of kL)).trans kL
  have s0 := cell_of kL2 0
  have s1 := cell_of kL2 1
  have s2 := cell_of kL2 2
  have s3 := cell_of kL2 3
  simp at s0 s1 s2 s3
  go_wp2_with fail
  refine (great6_any (HL.out.under B2)).mono ?_
  intro e w3 hp
  obtain ⟨b, rfl, hb, b3⟩ := hp.out
  have B3 := B2.trans (b3.mono B2.size)
  have kL3 := (b3.block _ (lt_of kL2)).trans kL2
  clear s0 s1 s2 s3 kL kL2 hp
  have s0 := cell_of kL3 0
  have s1 := cell_of kL3 1
  have s2 := cell_of kL3 2
  have s3 := cell_of kL3 3
  simp at s0 s1 s2 s3
  have yL := lt_of kL3
  cases b
  case true =>
    go_wp2
    go_ret
    exact ⟨rfl, B3⟩
  case false =>
    have HG := hide (hb rfl)
    clear hb
    go_wp2_with fail
    refine (rowsGreat2_any (HR.out.under B3)).mono ?_
    intro e w4 hp
    obtain ⟨b, rfl, hb, b4⟩ := hp.out
    have B4 := B3.trans (b4.mono B3.size)
    have kL4 := (b4.block _ (lt_of kL3)).trans kL3
    clear s0 s1 s2 s3 kL3 hp yL
    have s0 := cell_of kL4 0
    have s1 := cell_of kL4 1
    have s2 := cell_of kL4 2
    have s3 := cell_of kL4 3
    simp at s0 s1 s2 s3
    cases b
    case true =>
      go_wp2
      go_ret
      exact ⟨rfl, B4⟩
    case false =>
      obtain ⟨h60, hrl0⟩ := hb rfl
      have HRl := hide (fun r hr => (⟨by have := hrl0 r hr; omega, HRw.out r hr⟩ : r.length ≤ 1000000 ∧ Lo.Wd r))
      clear hb hrl0
      obtain ⟨⟨g1, g2, g3⟩, g4⟩ := HG.out
      have HC8 := hide (copyLoops8_any (HL.out.under B4) (by omega) (by omega) (by omega) (fun s hs => by have := g4 s hs; omega))
      clear HG g4
      go_wp2_with fail
      refine HC8.out.mono ?_
      intro e w5 hp
      obtain ⟨a1, d1, a2, d2, a3, d3, rfl, hl5, b5⟩ := hp.out
      have B5 := B4.trans (b5.mono B4.size)
      have kL5 := (b5.block _ (lt_of kL4)).trans kL4
      have bO : Below w5.heap.size w5 (w5.alloc (.cells #[.int .i64 L.c, .slice a1 L.P.length d1, .slice a2 L.G.length d2, .slice a3 L.S.length d3] 25 (0, 0))) := (Below.refl _ _).alloc (Nat.le_refl _) _
      have kO := heap_new w5 (.cells #[.int .i64 L.c, .slice a1 L.P.length d1, .slice a2 L.G.length d2, .slice a3 L.S.length d3] 25 (0, 0))
      have HL5 := hide ((hl5.wide (ok' := fun i => w4.heap.size ≤ i ∧ i < w5.heap.size) (fun i h1 h2 => ⟨h1, h2⟩)).under bO)
      clear s0 s1 s2 s3 kL4 hp hl5 HC8
      go_upto_region 6 with fail
      generalize w5.alloc (.cells #[.int .i64 L.c, .slice a1 L.P.length d1, .slice a2 L.G.length d2, .slice a3 L.S.length d3] 25 (0, 0)) = w6 at bO kO HL5 ⊢
      have B6 := B5.trans (bO.mono B5.size)
      have kL6 := (bO.block _ (lt_of kL5)).trans kL5
      clear kL5
      go_wp2_with fail
      refine (copyRows11_any (HR.out.under B6) h60 (fun r hr => (HRl.out r hr).1)).mono ?_
      rintro e w7 ⟨aI, cI, rfl, hI7, b7⟩
      have B7 := B6.trans (b7.mono B6.size)
      have kL7 := (b7.block _ (lt_of kL6)).trans kL6
      have kO7 := (b7.block _ (lt_of kO)).trans kO
      have hwL7 := lt_of kL7
      have hwO7 := lt_of kO7
      have HI7 := hide (hI7.wide (ok' := fun i => i < w7.heap.size) fun i _ h => h)
      have HL7 := hide (HL5.out.under b7)
      have hlI := hI7.llAt
      obtain ⟨aU, cU, eU, hv1, hv2, -⟩ := hlI
      injection eU with z1 z2 z3
      subst z1 z3
      unfold maxLen at hv2
      clear kL6 kO hI7 HL5 z2
      have s0 := cell_of kL7 0
      have s1 := cell_of kL7 1
      have s2 := cell_of kL7 2
      have s3 := cell_of kL7 3
      simp at s0 s1 s2 s3
      have o0 := cell_of kO7 0
      have o1 := cell_of kO7 1
      have o2 := cell_of kO7 2
      have o3 := cell_of kO7 3
      simp at o0 o1 o2 o3
      go_wp2_with fail
      refine (new12_any (HK.out.under B7) (HL7.out.wide (fun i _ h => h)) (by omega) (by omega) (by omega)).mono ?_
      intro e w8 hN
      obtain ⟨hbad, hgood, b8⟩ := hN
      have B8 := B7.trans (b8.mono B7.size)
      have kL8 := (b8.block _ (lt_of kL7)).trans kL7
      have kO8 := (b8.block _ (lt_of kO7)).trans kO7
      have HL8 := hide (HL7.out.under b8)
      have HI8 := hide (HI7.out.under b8)
      clear s0 s1 s2 s3 o0 o1 o2 o3 kL7 kO7 HL7 HI7
      by_cases hz : (Lo.fault L).1 = 0
      case neg =>
        have he := hbad hz
        subst he
        obtain ⟨f1, hf1⟩ : ∃ f1, f1 = (Lo.fault L).1 := ⟨_, rfl⟩
        obtain ⟨f2, hf2⟩ : ∃ f2, f2 = (Lo.fault L).2 := ⟨_, rfl⟩
        have hc9 := fun W (b : Below w.heap.size w W) => loopsFault9_any (HL.out.under b)
        rw [← hf1, ← hf2] at hc9 ⊢
        rw [← hf1] at hz
        have hzb : (f1 != 0) = true := by simpa using hz
        have HC9 := hide hc9
        have bF : Below w8.heap.size w8 (w8.alloc (.cells #[.int .i64 f1, .int .i64 f2] 29 (0, 0))) := (Below.refl _ _).alloc (Nat.le_refl _) _
        have kF := heap_new w8 (.cells #[.int .i64 f1, .int .i64 f2] 29 (0, 0))
        clear hf1 hf2 hc9 hgood hbad hz
        go_upto_region 8 with fail
        generalize w8.alloc (.cells #[.int .i64 f1, .int .i64 f2] 29 (0, 0)) = w9 at bF kF ⊢
        have B9 := B8.trans (bF.mono B8.size)
        have kL9 := (bF.block _ (lt_of kL8)).trans kL8
        clear kL8
        have s0 := cell_of kL9 0
        have s1 := cell_of kL9 1
        have s2 := cell_of kL9 2
        have s3 := cell_of kL9 3
        simp at s0 s1 s2 s3
        go_wp2_with fail
        refine (HC9.out w9 B9).mono ?_
        rintro e w10 ⟨rfl, b10⟩
        have B10 := B9.trans (b10.mono B9.size)
        have kF10 := (b10.block _ (lt_of kF)).trans kF
        have bW : Below w10.heap.size w10 (w10.alloc (.cells #[.int .i64 f1, .int .i64 f2] 29 (0, 0))) := (Below.refl _ _).alloc (Nat.le_refl _) _
        have kW := heap_new w10 (.cells #[.int .i64 f1, .int .i64 f2] 29 (0, 0))
        clear s0 s1 s2 s3 kF
        go_upto_region 9 with fail
        generalize w10.alloc (.cells #[.int .i64 f1, .int .i64 f2] 29 (0, 0)) = w11 at bW kW ⊢
        have kF11 := (bW.block _ (lt_of kF10)).trans kF10
        have BE := B10.trans (bW.mono B10.size)
        have p0 := cell_of kF11 0
        have p1 := cell_of kF11 1
        simp at p0 p1
        have r0 := cell_of kW 0
        have r1 := cell_of kW 1
        simp at r0 r1
        go_wp2
        go_ret
        exact ⟨rfl, BE⟩
      case pos =>
        have hg := Lo.good_of hz
        have HLE := hide (Lo.lens_of hz)
        have hf0 := Lo.fault_zero hz
        obtain ⟨mb, cb, nc, x1, y1, x2, y2, x3, y3, he, hM, hLB, hmb, hcb⟩ := hgood hz
        subst he
        have hncL : (nc : Int) = L.c := hM.n
        have hn6 : nc ≤ 6000 := by have := hg.c; omega
        have hlt8 := hLB.lt
        have hmb8 := lt_of hM.m.m
        have hne := hM.m.ne
        have HM8 := hide hM
        have HLB8 := hide hLB
        have hc9 := fun W (b : Below w.heap.size w W) => loopsFault9_any (HL.out.under b)
        rw [hf0] at hc9
        have HC9 := hide hc9
        have HGd := hide hg
        have HNC := hide hncL
        have bF : Below w8.heap.size w8 (w8.alloc (.cells #[.int .i64 0, .int .i64 0] 29 (0, 0))) := (Below.refl _ _).alloc (Nat.le_refl _) _
        have kF := heap_new w8 (.cells #[.int .i64 0, .int .i64 0] 29 (0, 0))
        clear hc9 hgood hbad hz hf0 hg hncL hM hLB
        go_upto_region 8 with fail
        generalize w8.alloc (.cells #[.int .i64 0, .int .i64 0] 29 (0, 0)) = w9 at bF kF ⊢
        have B9 := B8.trans (bF.mono B8.size)
        have kL9 := (bF.block _ (lt_of kL8)).trans kL8
        have s0 := cell_of kL9 0
        have s1 := cell_of kL9 1
        have s2 := cell_of kL9 2
        have s3 := cell_of kL9 3
        simp at s0 s1 s2 s3
        go_wp2_with fail
        refine (HC9.out w9 B9).mono ?_
        rintro e w10 ⟨rfl, b10⟩
        have B10 := B9.trans (b10.mono B9.size)
        have kF10 := (b10.block _ (lt_of kF)).trans kF
        have bW : Below w10.heap.size w10 (w10.alloc (.cells #[.int .i64 0, .int .i64 0] 29 (0, 0))) := (Below.refl _ _).alloc (Nat.le_refl _) _
        have kW := heap_new w10 (.cells #[.int .i64 0, .int .i64 0] 29 (0, 0))
        have kL10 := (b10.block _ (lt_of kL9)).trans kL9
        clear s0 s1 s2 s3 kF
        go_upto_region 9 with fail
        generalize w10.alloc (.cells #[.int .i64 0, .int .i64 0] 29 (0, 0)) = w11 at bW kW ⊢
        have kF11 := (bW.block _ (lt_of kF10)).trans kF10
        have kL11 := (bW.block _ (lt_of kL10)).trans kL10
        have B11 := B10.trans (bW.mono B10.size)
        have b8_11 := bF.trans ((b10.trans (bW.mono b10.size)).mono bF.size)
        have p0 := cell_of kF11 0
        have p1 := cell_of kF11 1
        simp at p0 p1
        have r0 := cell_of kW 0
        have r1 := cell_of kW 1
        simp at r0 r1
        have s0 := cell_of kL11 0
        have s1 := cell_of kL11 1
        have s2 := cell_of kL11 2
        have s3 := cell_of kL11 3
        simp at s0 s1 s2 s3
        have hc13 := fun W => begin13_any (w := W) (nc := nc) (aP := aP) (aG := aG) (aS := aS) (nP := L.P.length) (nG := L.G.length) (nS := L.S.length) (cP := cP) (cG := cG) (cS := cS) hn6
        rw [HNC.out] at hc13
        have HC13 := hide hc13
        clear hc13 kL9 kL10 kF10
        go_wp2_with fail
        refine (HC13.out w11).mono ?_
        rintro e w12 ⟨rb, gb, rfl, kR, hgl, hgb, hgr, b12⟩
        have B12 := B11.trans (b12.mono B11.size)
        have b8_12 := b8_11.trans (b12.mono b8_11.size)
        have hz8 := b8_11.size
        have hgb12 := hgl.lt
        have hrb12 := lt_of kR
        have hMm := hide ((b8_12.block _ hmb8).trans HM8.out.m.m)
        have HMh := hide ((HM8.out.h.wide (ok' := fun i => (i ≠ cb ∧ i ≠ gb) ∧ i < w8.heap.size) (fun i h1 h2 => ⟨⟨h1, by omega⟩, h2⟩)).under b8_12)
        have hl8 := b8.size
        have hl7 := b7.size
        have HRh := hide ((HL.out.wide (ok' := fun i => (i ≠ cb ∧ i ≠ gb) ∧ i < w8.heap.size) (fun i h1 h2 => ⟨⟨by have := B7.size; omega, by have := B8.size; omega⟩, by have := B8.size; omega⟩)).under B12)
        have HOh := hide ((HL8.out.wide (ok' := fun i => (i ≠ cb ∧ i ≠ gb) ∧ i < w8.heap.size) (fun i h1 h2 => ⟨⟨by have := h1.2; have := bO.size; omega, by have := h1.2; have := bO.size; omega⟩, h2⟩)).under b8_12)
        have HIh := hide ((HI8.out.wide (ok' := fun i => (i ≠ cb ∧ i ≠ gb) ∧ i < w8.heap.size) (fun i h1 h2 => ⟨⟨by have : i < w7.heap.size := h1; omega, by have : i < w7.heap.size := h1; omega⟩, h2⟩)).under b8_12)
        have HQh := hide ((HR.out.wide (ok' := fun i => (i ≠ cb ∧ i ≠ gb) ∧ i < w8.heap.size) (fun i h1 h2 => ⟨⟨by have := B7.size; omega, by have := B8.size; omega⟩, by have := B8.size; omega⟩)).under B12)
        have kL12 := (b12.block _ (lt_of kL11)).trans kL11
        have kO12 := (b8_12.block _ (lt_of kO8)).trans kO8
        have hcbg : cb < gb := by omega
        have hmbg : mb < gb := by omega
        have hwc : w.heap.size < cb := by omega
        have hoc : w5.heap.size < cb := by omega
        have HMA := hide (fun W (a : Aside [cb, gb] w12.heap.size w12 W) => (⟨⟨a.keep hMm.out (by omega) (by simp; omega), hne⟩, HM8.out.n, (HMh.out.keep a.size (fun i hi hl => a.block i hl (by simp; omega))).wide (fun i h _ => h.1.1)⟩ : Mach W mb cb nc x1 x2 x3 y1 y2 y3 (Lo.ownL L)))
        have HRA := hide (fun W (a : Aside [cb, gb] w12.heap.size w12 W) => (⟨⟨a.keep kR hrb12 (by simp; omega), by omega⟩, HNC.out, (HRh.out.keep a.size (fun i hi hl => a.block i hl (by simp; omega))).wide (fun i h _ => h.1.2)⟩ : RMach W rb gb nc aP aG aS cP cG cS L))
        have HIA := hide (fun W (a : Aside [cb, gb] w12.heap.size w12 W) => HIh.out.keep a.size (fun i hi hl => a.block i hl (by simp; omega)))
        have HQA := hide (fun W (a : Aside [cb, gb] w12.heap.size w12 W) => HQh.out.keep a.size (fun i hi hl => a.block i hl (by simp; omega)))
        have HOA := hide (fun W (a : Aside [cb, gb] w12.heap.size w12 W) => HOh.out.keep a.size (fun i hi hl => a.block i hl (by simp; omega)))
        have HLA := hide (fun W (a : Aside [cb, gb] w12.heap.size w12 W) => HRh.out.keep a.size (fun i hi hl => a.block i hl (by simp; omega)))
        have HKL := hide (fun W (a : Aside [cb, gb] w12.heap.size w12 W) => a.keep kL12 (lt_of kL12) (by simp; omega))
        have HKO := hide (fun W (a : Aside [cb, gb] w12.heap.size w12 W) => a.keep kO12 (lt_of kO12) (by simp; omega))
        have HST := hide (show LB w12 cb (List.replicate nc 0) ∧ LB w12 gb (List.replicate nc 0) ∧ (List.replicate nc (0 : Int)).length = nc ∧ Lo.Wd (List.replicate nc 0) from ⟨HLB8.out.under b8_12, hgl, by simp, fun x hx => by rw [List.eq_of_mem_replicate hx]; show I64 0; unfold I64; omega⟩)
        have hcb12 : cb < w12.heap.size := by omega
        clear s0 s1 s2 s3 p0 p1 r0 r1 kL11 kF11 kW kL8 kO8 kL12 kO12 kR hgl hMm HMh HRh HOh HIh HQh
        go_wp2_with fail
        go_loopg [11] R.length (fun kq v wr => ∃ (i : Nat) (M : List Int), i ≤ R.length ∧ kq = R.length - i ∧ v = .int .i64 (i : Nat) ∧ Hid (LB wr cb M ∧ LB wr gb M ∧ M.length = nc ∧ Lo.Wd M) ∧ Aside [cb, gb] w12.heap.size w12 wr)
        case atStart => exact ⟨0, _, Nat.zero_le _, rfl, rfl, HST, Aside.refl _⟩
        case round =>
          clear HST
          obtain ⟨i, M, hi, rfl, rfl, HL2, hbr⟩ := hrel
          by_cases hlt : i < R.length
          case neg =>
            have hin : i = R.length := by omega
            subst hin
            have kO := HKO.out wr hbr
            have kLr := HKL.out wr hbr
            have o0 := cell_of kO 0
            have o1 := cell_of kO 1
            have o2 := cell_of kO 2
            have o3 := cell_of kO 3
            simp at o0 o1 o2 o3
            have s0 := cell_of kLr 0
            have s1 := cell_of kLr 1
            have s2 := cell_of kLr 2
            have s3 := cell_of kLr 3
            simp at s0 s1 s2 s3
            go_wp2_with fail
            refine (sameLoops18_same (HOA.out wr hbr) (HLA.out wr hbr)).mono ?_
            rintro e v1 ⟨rfl, c1⟩
            have BB := hbr.trans (aside (S := [cb, gb]) c1) hbr.size
            clear o0 o1 o2 o3 s0 s1 s2 s3
            go_wp2_with fail
            refine (sameRows19_same (HIA.out v1 BB) (HQA.out v1 BB)).mono ?_
            rintro e v2 ⟨rfl, c2⟩
            have BE := B12.trans (((BB.trans (aside (S := [cb, gb]) c2) BB.size).mono B12.size).below (by intro k hk; simp at hk; omega))
            go_wp2
            go_ret
            exact ⟨rfl, BE⟩
          case pos =>
            obtain ⟨kC, kG, hMl, hMw⟩ := HL2.out
            have hMa := HMA.out wr hbr
            obtain ⟨ao1, cp1, e1, -, -, hat1⟩ := (HIA.out wr hbr).llAt
            injection e1 with q1 q2 q3
            obtain ⟨bI, oI, u1, hbI, yI, xI, hi1⟩ := hat1 i hlt
            rw [hbI] at q1
            subst q1
            obtain ⟨r, hr⟩ : ∃ r, r = R[i] := ⟨_, rfl⟩
            have hrl := HRl.out _ (List.getElem_mem hlt)
            have HQR := hide (fun W (a : Aside [cb, gb] w12.heap.size w12 W) => (show ∃ bR oR aX cX, aR = some ⟨bR, oR, none⟩ ∧ bR < W.heap.size ∧ W.cell? ⟨bR, oR + i, none⟩ = some (.slice aX r.length cX) ∧ HInts (fun i => (i ≠ cb ∧ i ≠ gb) ∧ i < w8.heap.size) W (.slice aX r.length cX) r from by
              obtain ⟨ao, cp, e, -, -, hat⟩ := (HQA.out W a).llAt
              injection e with q1 q2 q3
              obtain ⟨b, o, u, hb, y, x, hh⟩ := hat i hlt
              rw [← hr] at hh
              obtain ⟨aX, cX, rfl, -, -, -⟩ := hh.at
              exact ⟨b, o, aX, cX, q1.trans hb, y, x, hh⟩))
            rw [← hr] at hi1 hrl
            obtain ⟨aX1, cX1, rfl, f1, f2, -⟩ := hi1.at
            unfold maxLen at f2
            have hr0 := hrl.1
            have HRW := hide hrl.2
            have hle := HLE.out
            clear hat1 q2 q3 hbI hr hrl
            by_cases hlen : r.length = L.P.length
            case neg =>
              go_wp2_with fail
              refine (row14_bad (M := M) hMa aX1 r.length cX1 (show r.length ≠ (Lo.ownL L).P.length from hlen) (by omega) (by show L.P.length ≤ _; omega)).mono ?_
              rintro e v1 ⟨rfl, c1⟩
              have H1 := hbr.trans (aside (S := [cb, gb]) c1) hbr.size
              have bA : Below v1.heap.size v1 (v1.alloc (.cells #[.int .i64 17, .int .i64 (-1)] 29 (0, 0))) := (Below.refl _ _).alloc (Nat.le_refl _) _
              have kF := heap_new v1 (.cells #[.int .i64 17, .int .i64 (-1)] 29 (0, 0))
              have hne2 : ((r.length : Int) != (L.P.length : Int)) = true := by simp; omega
              clear hMa xI
              go_upto_region 18 with fail
              generalize v1.alloc (.cells #[.int .i64 17, .int .i64 (-1)] 29 (0, 0)) = v2 at bA kF ⊢
              have H2 := H1.trans (aside (S := [cb, gb]) bA) H1.size
              have kC2 := (kC.under c1).under bA
              have kG2 := (kG.under c1).under bA
              obtain ⟨bR, oR, aX2, cX2, rfl, yR, xR, -⟩ := HQR.out v2 H2
              have s1 := cell_of (HKL.out v2 H2) 1
              simp at s1
              have yL2 := lt_of (HKL.out v2 H2)
              have yF := lt_of kF
              clear hle f1 f2 hr0 hlen HRW hi1
              refine wp_region_late (fun w' => Below v2.heap.size v2 w') (fun _ => false) (by kernel_rfl) ?_
              have hH0 : Below v2.heap.size v2 v2.drew := (Below.refl _ _).drew
              generalize v2.drew = wd0 at hH0 ⊢
              refine' wpAnyL_take (i := 0) (oi := ⟨some 57, _, _, _, _, _⟩) (v := _) rfl (by kernel_rfl) (by kernel_rfl) (by kernel_rfl) (by kernel_rfl) (fun _ _ _ h => h) hH0 (by rfl) ?hyv ?onw
              case hyv =>
                intro wz hSw
                go_simp
                try rfl
              case onw =>
                try simp only [Act.put, List.setIfInBounds_toArray, List.set_cons_zero, List.set_cons_succ]
                refine' wpAnyL_take (i := 1) (oi := ⟨some 58, _, _, _, _, _⟩) (v := _) rfl (by kernel_rfl) (by kernel_rfl) (by kernel_rfl) (by kernel_rfl) (fun _ _ _ h => h) hH0 (by rfl) ?hyv ?onw
                case hyv =>
                  intro wz hSw
                  go_simp
                  try rfl
                case onw =>
                  try simp only [Act.put, List.setIfInBounds_toArray, List.set_cons_zero, List.set_cons_succ]
                  refine' wpAnyL_take (i := 2) (oi := ⟨some 59, _, _, _, _, _⟩) (v := _) rfl (by kernel_rfl) (by kernel_rfl) (by kernel_rfl) (by kernel_rfl) (fun _ _ _ h => h) hH0 (by rfl) ?hyv ?onw
                  case hyv =>
                    intro wz hSw
                    go_simp
                    try rfl
                  case onw =>
                    try simp only [Act.put, List.setIfInBounds_toArray, List.set_cons_zero, List.set_cons_succ]
                    refine' wpAnyL_take (i := 3) (oi := ⟨some 60, _, _, _, _, _⟩) (v := _) rfl (by kernel_rfl) (by kernel_rfl) (by kernel_rfl) (by kernel_rfl) (fun _ _ _ h => h) hH0 (by rfl) ?hyv ?onw
                    case hyv =>
                      intro wz hSw
                      have zc0 := (hSw.cell (p := ⟨bR, oR + i, none⟩) yR).trans xR
                      have zc1 := (hSw.cell (p := ⟨w.heap.size, 1, none⟩) yL2).trans s1
                      go_simp
                      try rfl
                    case onw =>
                      try simp only [Act.put, List.setIfInBounds_toArray, List.set_cons_zero, List.set_cons_succ]
                      refine' wpAnyL_take (i := 4) (oi := ⟨some 61, _, _, _, _, _⟩) (v := _) rfl (by kernel_rfl) (by kernel_rfl) (by kernel_rfl) (by kernel_rfl) (fun _ _ _ h => h) hH0 (by rfl) ?hyv ?onw
                      case hyv =>
                        intro wz hSw
                        go_simp
                        try rfl
                      case onw =>
                        try simp only [Act.put, List.setIfInBounds_toArray, List.set_cons_zero, List.set_cons_succ]
                        refine' wpAnyL_take (i := 5) (oi := ⟨some 62, _, _, _, _, _⟩) (v := _) rfl (by kernel_rfl) (by kernel_rfl) (by kernel_rfl) (by kernel_rfl) (fun _ _ _ h => h) hH0 (by rfl) ?hyv ?onw
                        case hyv =>
                          intro wz hSw
                          go_simp
                          try rfl
                        case onw =>
                          try simp only [Act.put, List.setIfInBounds_toArray, List.set_cons_zero, List.set_cons_succ]
                          refine' wpAnyL_take (i := 6) (oi := ⟨some 63, _, _, _, _, _⟩) (v := _) rfl (by kernel_rfl) (by kernel_rfl) (by kernel_rfl) (by kernel_rfl) (fun _ _ _ h => h) hH0 (by rfl) ?hyv ?onw
                          case hyv =>
                            intro wz hSw
                            have zc0 := (hSw.cell (p := ⟨bR, oR + i, none⟩) yR).trans xR
                            have zc1 := (hSw.cell (p := ⟨w.heap.size, 1, none⟩) yL2).trans s1
                            go_simp
                            try rfl
                          case onw =>
                            try simp only [Act.put, List.setIfInBounds_toArray, List.set_cons_zero, List.set_cons_succ]
                            refine' wpAnyL_take (i := 7) (oi := ⟨some 64, _, _, _, _, _⟩) (v := _) rfl (by kernel_rfl) (by kernel_rfl) (by kernel_rfl) (by kernel_rfl) (fun _ _ _ h => h) hH0 (by rfl) ?hyv ?onw
                            case hyv =>
                              intro wz hSw
                              go_simp
                              try rfl
                            case onw =>
                              try simp only [Act.put, List.setIfInBounds_toArray, List.set_cons_zero, List.set_cons_succ]
                              refine' wpAnyL_take (i := 8) (oi := ⟨some 65, _, _, _, _, _⟩) (v := _) rfl (by kernel_rfl) (by kernel_rfl) (by kernel_rfl) (by kernel_rfl) (fun _ _ _ h => h) hH0 (by rfl) ?hyv ?onw
                              case hyv =>
                                intro wz hSw
                                go_simp
                                try rfl
                              case onw =>
                                try simp only [Act.put, List.setIfInBounds_toArray, List.set_cons_zero, List.set_cons_succ]
                                refine wpAnyL_done (by kernel_rfl) ?_ _
                                obtain ⟨v3, hv3⟩ : ∃ x, x = wd0 := ⟨_, rfl⟩
                                subst hv3
                                have p0 := (hH0.cell (p := ⟨v1.heap.size, 0, none⟩) yF).trans (show v2.cell? ⟨v1.heap.size, 0, none⟩ = some (.int .i64 17) by rw [cell_of kF 0]; rfl)
                                have p1 := (hH0.cell (p := ⟨v1.heap.size, 1, none⟩) yF).trans (show v2.cell? ⟨v1.heap.size, 1, none⟩ = some (.int .i64 (-1)) by rw [cell_of kF 1]; rfl)
                                have H3 := H2.trans (aside (S := [cb, gb]) hH0) H2.size
                                have kCz := kC2.under hH0
                                have kGz := kG2.under hH0
                                have hzl := hMl
                                have hzw := hMw
                                clear xR s1
                                have hGI := fun W (b : Below v3.heap.size v3 W) => (kGz.under b).ints (ok := fun _ => True) (by rw [hzl]; unfold maxLen; omega) trivial
                                rw [hzl] at hGI
                                have HGI := hide hGI
                                have HC17 := hide (fun W (b : Below v3.heap.size v3 W) => cells17_any ((HMA.out v3 H3).m.past (aside b)) (kCz.under b) hzl.symm hn6)
                                have t4 := cell_of (HRA.out v3 H3).m.m 4
                                simp at t4
                                have yrb := lt_of (HRA.out v3 H3).m.m
                                clear hGI
                                go_upto_region 24 with fail
                                refine wp_region_late (fun w' => Below v3.heap.size v3 w') (fun _ => false) (by kernel_rfl) ?_
                                have hH0 : Below v3.heap.size v3 v3.drew := (Below.refl _ _).drew
                                generalize v3.drew = wd0 at hH0 ⊢
                                refine' wpAnyL_take (i := 0) (oi := ⟨some 89, _, _, _, _, _⟩) (v := _) rfl (by kernel_rfl) (by kernel_rfl) (by kernel_rfl) (by kernel_rfl) (fun _ _ _ h => h) hH0 (by rfl) ?hyv ?onw
                                case hyv =>
                                  intro wz hSw
                                  go_simp
                                  try rfl
                                case onw =>
                                  try simp only [Act.put, List.setIfInBounds_toArray, List.set_cons_zero, List.set_cons_succ]
                                  refine' wpAnyL_take (i := 2) (oi := ⟨some 91, _, _, _, _, _⟩) (v := _) rfl (by kernel_rfl) (by kernel_rfl) (by kernel_rfl) (by kernel_rfl) (fun _ _ _ h => h) hH0 (by rfl) ?hyv ?onw
                                  case hyv =>
                                    intro wz hSw
                                    go_simp
                                    try rfl
                                  case onw =>
                                    try simp only [Act.put, List.setIfInBounds_toArray, List.set_cons_zero, List.set_cons_succ]
                                    refine' wpAnyL_take (i := 3) (oi := ⟨some 92, _, _, _, _, _⟩) (v := _) rfl (by kernel_rfl) (by kernel_rfl) (by kernel_rfl) (by kernel_rfl) (fun _ _ _ h => h) hH0 (by rfl) ?hyv ?onw
                                    case hyv =>
                                      intro wz hSw
                                      go_simp
                                      try rfl
                                    case onw =>
                                      try simp only [Act.put, List.setIfInBounds_toArray, List.set_cons_zero, List.set_cons_succ]
                                      refine' wpAnyL_take (i := 4) (oi := ⟨some 93, _, _, _, _, _⟩) (v := _) rfl (by kernel_rfl) (by kernel_rfl) (by kernel_rfl) (by kernel_rfl) (fun _ _ _ h => h) hH0 (by rfl) ?hyv ?onw
                                      case hyv =>
                                        intro wz hSw
                                        go_simp
                                        try rfl
                                      case onw =>
                                        try simp only [Act.put, List.setIfInBounds_toArray, List.set_cons_zero, List.set_cons_succ]
                                        refine' wpAnyL_take (i := 5) (oi := ⟨some 94, _, _, _, _, _⟩) (v := _) rfl (by kernel_rfl) (by kernel_rfl) (by kernel_rfl) (by kernel_rfl) (fun _ _ _ h => h) hH0 (by rfl) ?hyv ?onw
                                        case hyv =>
                                          intro wz hSw
                                          have zc0 := (hSw.cell (p := ⟨rb, 4, none⟩) yrb).trans t4
                                          go_simp
                                          try rfl
                                        case onw =>
                                          try simp only [Act.put, List.setIfInBounds_toArray, List.set_cons_zero, List.set_cons_succ]
                                          refine wpAnyL_one (i := 1) (o := _) rfl (by kernel_rfl) (by rfl) (fun K hK => ?_)
                                          go_simp
                                          refine (HC17.out wd0 hH0).mono ?_
                                          rintro eq wd1 ⟨v9, rfl, hO9, bq1⟩
                                          have hH1 : Below v3.heap.size v3 wd1 := hH0.trans (bq1.mono hH0.size)
                                          have HO9 := hide (longs_row hO9.row)
                                          clear hO9
                                          refine hK.out _ _ (fun _ => hH1) ?_
                                          clear hK K
                                          try simp only [Act.put, List.setIfInBounds_toArray, List.set_cons_zero, List.set_cons_succ]
                                          refine wpAnyL_one (i := 6) (o := _) rfl (by kernel_rfl) (by rfl) (fun K hK => ?_)
                                          go_simp
                                          refine (sameLongs_same HO9.out (HGI.out wd1 hH1)).mono ?_
                                          rintro eq wd2 ⟨rfl, bq2⟩
                                          have hH2 : Below v3.heap.size v3 wd2 := hH1.trans (bq2.mono hH1.size)
                                          refine hK.out _ _ (fun _ => hH2) ?_
                                          clear hK K
                                          try simp only [Act.put, List.setIfInBounds_toArray, List.set_cons_zero, List.set_cons_succ]
                                          refine' wpAnyL_take (i := 7) (oi := ⟨some 96, _, _, _, _, _⟩) (v := _) rfl (by kernel_rfl) (by kernel_rfl) (by kernel_rfl) (by kernel_rfl) (fun _ _ _ h => h) hH2 (by rfl) ?hyv ?onw
                                          case hyv =>
                                            intro wz hSw
                                            go_simp
                                            try rfl
                                          case onw =>
                                            try simp only [Act.put, List.setIfInBounds_toArray, List.set_cons_zero, List.set_cons_succ]
                                            refine wpAnyL_done (by kernel_rfl) ?_ _
                                            have BE := H3.trans (aside (S := [cb, gb]) hH2) H3.size
                                            have HNX := hide (show LB wd2 cb M ∧ LB wd2 gb M ∧ (M).length = nc ∧ Lo.Wd M from ⟨kCz.under hH2, kGz.under hH2, hzl, hzw⟩)
                                            clear kCz kGz HGI
                                            go_wp2_with fail
                                            go_roundg (R.length - (i + 1))
                                            case measure => omega
                                            case rel => exact ⟨i + 1, M, by omega, rfl, by go_num, HNX, BE⟩
            case pos =>
              have hqr := HQR.out
              rw [hlen] at hi1 xI f1 hqr
              have HQ2 := hide hqr
              clear hqr HQR
              have hWS := (HRA.out wr hbr).h.W
              obtain ⟨hkw, hkl⟩ := Lo.row_keep hWS hMw HRW.out
              have hgb := kG.lt
              go_wp2_with fail
              refine (row14_any hMa kC (by rw [hMl]; exact HM8.out.n) (Lo.good_own HGd.out) ⟨hle.1, hle.2.1, by show (L.S.map Lo.ownS).length ≤ _; rw [List.length_map]; exact hle.2.2⟩ hi1 (fun i h => h.1.1) hlen).mono ?_
              intro e v1 hp
              obtain ⟨vx, rfl, kC1, hO1, c1⟩ := hp.out
              rw [Lo.row_own HGd.out] at kC1 hO1
              rw [Lo.told_own] at hO1
              have H1 := hbr.trans (c1.wide (S' := [cb, gb]) (fun k _ h => by simp at h ⊢; omega)) hbr.size
              have kG1 : LB v1 gb M := kG.keep (c1.block gb hgb (by simp; omega))
              have z1 := c1.size
              obtain ⟨ax, cx, rfl, hx1, hx2⟩ := hO1.form
              unfold maxLen at hx2
              obtain ⟨M', hM'⟩ : ∃ M', M' = Lo.row L M r := ⟨_, rfl⟩
              have hrow := fun W (h : LB W gb M) (a : Aside [cb, gb] w12.heap.size w12 W) {okI : Nat → Prop} {aI : Option Addr} {cI : Nat} (hI : HInts okI W (.slice aI L.P.length cI) r) (hok : ∀ i, okI i → i ≠ gb) => row15_any (HRA.out W a) h (by rw [hMl]; exact HNC.out) HGd.out hle hI hok hlen hMw HRW.out
              have hrow2 := fun W h a {okI} {aI} {cI} (hI : HInts okI W (.slice aI L.P.length cI) r) hok => (hrow W h a hI hok).mono (R' := fun e w' => ∃ v, e = .returned v ∧ LB w' gb M' ∧ OwnL kLong W.heap.size w' v (Lo.told L M') ∧ Aside [gb] W.heap.size W w') (fun e w' hp => by rw [hM']; exact hp.out)
              have HRO := hide hrow2
              clear hrow hrow2
              rw [← hM'] at kC1 hO1 hkw hkl hx1
              obtain ⟨T, hT⟩ : ∃ T, T = Lo.told L M' := ⟨_, rfl⟩
              rw [← hT] at hO1 hx1
              have HT := hide hT
              have HX1 := hide (longs_row hO1.row)
              have bA : Below v1.heap.size v1 (v1.alloc (.cells #[.int .i64 0, .int .i64 0] 29 (0, 0))) := (Below.refl _ _).alloc (Nat.le_refl _) _
              have kF := heap_new v1 (.cells #[.int .i64 0, .int .i64 0] 29 (0, 0))
              have hne2 : ((L.P.length : Int) != (L.P.length : Int)) = false := by simp
              rw [← hM', ← hT]
              clear hMa xI hp hO1 hT hM' hi1
              go_upto_region 18 with fail
              generalize v1.alloc (.cells #[.int .i64 0, .int .i64 0] 29 (0, 0)) = v2 at bA kF ⊢
              have H2 := H1.trans (aside (S := [cb, gb]) bA) H1.size
              have kC2 := kC1.under bA
              have kG2 := kG1.under bA
              have z2 := bA.size
              obtain ⟨bR, oR, aX2, cX2, rfl, yR, xR, hi2⟩ := HQ2.out v2 H2
              have s1 := cell_of (HKL.out v2 H2) 1
              simp at s1
              have yL2 := lt_of (HKL.out v2 H2)
              have yF := lt_of kF
              clear f1 f2 hr0 hle
              refine wp_region_late (fun w' => Below v2.heap.size v2 w') (fun _ => false) (by kernel_rfl) ?_
              have hH0 : Below v2.heap.size v2 v2.drew := (Below.refl _ _).drew
              generalize v2.drew = wd0 at hH0 ⊢
              refine' wpAnyL_take (i := 0) (oi := ⟨some 57, _, _, _, _, _⟩) (v := _) rfl (by kernel_rfl) (by kernel_rfl) (by kernel_rfl) (by kernel_rfl) (fun _ _ _ h => h) hH0 (by rfl) ?hyv ?onw
              case hyv =>
                intro wz hSw
                go_simp
                try rfl
              case onw =>
                try simp only [Act.put, List.setIfInBounds_toArray, List.set_cons_zero, List.set_cons_succ]
                refine' wpAnyL_take (i := 1) (oi := ⟨some 58, _, _, _, _, _⟩) (v := _) rfl (by kernel_rfl) (by kernel_rfl) (by kernel_rfl) (by kernel_rfl) (fun _ _ _ h => h) hH0 (by rfl) ?hyv ?onw
                case hyv =>
                  intro wz hSw
                  go_simp
                  try rfl
                case onw =>
                  try simp only [Act.put, List.setIfInBounds_toArray, List.set_cons_zero, List.set_cons_succ]
                  refine' wpAnyL_take (i := 2) (oi := ⟨some 59, _, _, _, _, _⟩) (v := _) rfl (by kernel_rfl) (by kernel_rfl) (by kernel_rfl) (by kernel_rfl) (fun _ _ _ h => h) hH0 (by rfl) ?hyv ?onw
                  case hyv =>
                    intro wz hSw
                    go_simp
                    try rfl
                  case onw =>
                    try simp only [Act.put, List.setIfInBounds_toArray, List.set_cons_zero, List.set_cons_succ]
                    refine' wpAnyL_take (i := 3) (oi := ⟨some 60, _, _, _, _, _⟩) (v := _) rfl (by kernel_rfl) (by kernel_rfl) (by kernel_rfl) (by kernel_rfl) (fun _ _ _ h => h) hH0 (by rfl) ?hyv ?onw
                    case hyv =>
                      intro wz hSw
                      have zc0 := (hSw.cell (p := ⟨bR, oR + i, none⟩) yR).trans xR
                      have zc1 := (hSw.cell (p := ⟨w.heap.size, 1, none⟩) yL2).trans s1
                      go_simp
                      try rfl
                    case onw =>
                      try simp only [Act.put, List.setIfInBounds_toArray, List.set_cons_zero, List.set_cons_succ]
                      refine' wpAnyL_take (i := 4) (oi := ⟨some 61, _, _, _, _, _⟩) (v := _) rfl (by kernel_rfl) (by kernel_rfl) (by kernel_rfl) (by kernel_rfl) (fun _ _ _ h => h) hH0 (by rfl) ?hyv ?onw
                      case hyv =>
                        intro wz hSw
                        go_simp
                        try rfl
                      case onw =>
                        try simp only [Act.put, List.setIfInBounds_toArray, List.set_cons_zero, List.set_cons_succ]
                        refine' wpAnyL_take (i := 5) (oi := ⟨some 62, _, _, _, _, _⟩) (v := _) rfl (by kernel_rfl) (by kernel_rfl) (by kernel_rfl) (by kernel_rfl) (fun _ _ _ h => h) hH0 (by rfl) ?hyv ?onw
                        case hyv =>
                          intro wz hSw
                          go_simp
                          try rfl
                        case onw =>
                          try simp only [Act.put, List.setIfInBounds_toArray, List.set_cons_zero, List.set_cons_succ]
                          refine' wpAnyL_take (i := 6) (oi := ⟨some 63, _, _, _, _, _⟩) (v := _) rfl (by kernel_rfl) (by kernel_rfl) (by kernel_rfl) (by kernel_rfl) (fun _ _ _ h => h) hH0 (by rfl) ?hyv ?onw
                          case hyv =>
                            intro wz hSw
                            have zc0 := (hSw.cell (p := ⟨bR, oR + i, none⟩) yR).trans xR
                            have zc1 := (hSw.cell (p := ⟨w.heap.size, 1, none⟩) yL2).trans s1
                            go_simp
                            try rfl
                          case onw =>
                            try simp only [Act.put, List.setIfInBounds_toArray, List.set_cons_zero, List.set_cons_succ]
                            refine' wpAnyL_take (i := 7) (oi := ⟨some 64, _, _, _, _, _⟩) (v := _) rfl (by kernel_rfl) (by kernel_rfl) (by kernel_rfl) (by kernel_rfl) (fun _ _ _ h => h) hH0 (by rfl) ?hyv ?onw
                            case hyv =>
                              intro wz hSw
                              go_simp
                              try rfl
                            case onw =>
                              try simp only [Act.put, List.setIfInBounds_toArray, List.set_cons_zero, List.set_cons_succ]
                              refine' wpAnyL_take (i := 8) (oi := ⟨some 65, _, _, _, _, _⟩) (v := _) rfl (by kernel_rfl) (by kernel_rfl) (by kernel_rfl) (by kernel_rfl) (fun _ _ _ h => h) hH0 (by rfl) ?hyv ?onw
                              case hyv =>
                                intro wz hSw
                                go_simp
                                try rfl
                              case onw =>
                                try simp only [Act.put, List.setIfInBounds_toArray, List.set_cons_zero, List.set_cons_succ]
                                refine wpAnyL_done (by kernel_rfl) ?_ _
                                obtain ⟨v3, hv3⟩ : ∃ x, x = wd0 := ⟨_, rfl⟩
                                subst hv3
                                have kF3 := (hH0.block _ yF).trans kF
                                have H3 := H2.trans (aside (S := [cb, gb]) hH0) H2.size
                                have kC3 := kC2.under hH0
                                have kG3 := kG2.under hH0
                                have z3 := hH0.size
                                have xR3 := (hH0.cell (p := ⟨bR, oR + i, none⟩) yR).trans xR
                                have hi3 := hi2.under hH0
                                have HX3 := hide ((HX1.out.under bA).under hH0)
                                have HR3 := hide (HRO.out v3 kG3 H3 hi3 (fun i h => h.1.2))
                                clear xR s1 hi2 hi3 HX1 HRO
                                go_wp2_with fail
                                refine HR3.out.mono ?_
                                rintro e v4 ⟨vy, rfl, kG4, hO4, c4⟩
                                have H4 := H3.trans (c4.wide (S' := [cb, gb]) (fun k _ h => by simp at h ⊢; omega)) H3.size
                                have kC4 : LB v4 cb M' := kC3.keep (c4.block cb kC3.lt (by simp; omega))
                                have kF4 := c4.keep kF3 (lt_of kF3) (by simp; omega)
                                rw [← HT.out] at hO4
                                obtain ⟨ay, cy, rfl, hy1, hy2⟩ := hO4.form
                                unfold maxLen at hy2
                                have HX4 := hide (HX3.out.keep c4.size (fun i hi hl => c4.block i hl (by simp; omega)))
                                have HY4 := hide (longs_row hO4.row)
                                have p0 := cell_of kF4 0
                                simp at p0
                                clear hO4 HX3 HR3 xR3 kF3 kF kC3 kG3 kC2 kG2 kC1 kG1 yR yF
                                go_wp2_with fail
                                refine (sameLongs_same HX4.out HY4.out).mono ?_
                                rintro e v5 ⟨rfl, c5⟩
                                have H5 := H4.trans (aside (S := [cb, gb]) c5) H4.size
                                have kCz := kC4.under c5
                                have kGz := kG4.under c5
                                have hzl := hkl.trans hMl
                                have hzw := hkw
                                clear HX4 HY4 p0 kF4
                                have hGI := fun W (b : Below v5.heap.size v5 W) => (kGz.under b).ints (ok := fun _ => True) (by rw [hzl]; unfold maxLen; omega) trivial
                                rw [hzl] at hGI
                                have HGI := hide hGI
                                have HC17 := hide (fun W (b : Below v5.heap.size v5 W) => cells17_any ((HMA.out v5 H5).m.past (aside b)) (kCz.under b) hzl.symm hn6)
                                have t4 := cell_of (HRA.out v5 H5).m.m 4
                                simp at t4
                                have yrb := lt_of (HRA.out v5 H5).m.m
                                clear hGI
                                go_upto_region 24 with fail
                                refine wp_region_late (fun w' => Below v5.heap.size v5 w') (fun _ => false) (by kernel_rfl) ?_
                                have hH0 : Below v5.heap.size v5 v5.drew := (Below.refl _ _).drew
                                generalize v5.drew = wd0 at hH0 ⊢
                                refine' wpAnyL_take (i := 0) (oi := ⟨some 89, _, _, _, _, _⟩) (v := _) rfl (by kernel_rfl) (by kernel_rfl) (by kernel_rfl) (by kernel_rfl) (fun _ _ _ h => h) hH0 (by rfl) ?hyv ?onw
                                case hyv =>
                                  intro wz hSw
                                  go_simp
                                  try rfl
                                case onw =>
                                  try simp only [Act.put, List.setIfInBounds_toArray, List.set_cons_zero, List.set_cons_succ]
                                  refine' wpAnyL_take (i := 2) (oi := ⟨some 91, _, _, _, _, _⟩) (v := _) rfl (by kernel_rfl) (by kernel_rfl) (by kernel_rfl) (by kernel_rfl) (fun _ _ _ h => h) hH0 (by rfl) ?hyv ?onw
                                  case hyv =>
                                    intro wz hSw
                                    go_simp
                                    try rfl
                                  case onw =>
                                    try simp only [Act.put, List.setIfInBounds_toArray, List.set_cons_zero, List.set_cons_succ]
                                    refine' wpAnyL_take (i := 3) (oi := ⟨some 92, _, _, _, _, _⟩) (v := _) rfl (by kernel_rfl) (by kernel_rfl) (by kernel_rfl) (by kernel_rfl) (fun _ _ _ h => h) hH0 (by rfl) ?hyv ?onw
                                    case hyv =>
                                      intro wz hSw
                                      go_simp
                                      try rfl
                                    case onw =>
                                      try simp only [Act.put, List.setIfInBounds_toArray, List.set_cons_zero, List.set_cons_succ]
                                      refine' wpAnyL_take (i := 4) (oi := ⟨some 93, _, _, _, _, _⟩) (v := _) rfl (by kernel_rfl) (by kernel_rfl) (by kernel_rfl) (by kernel_rfl) (fun _ _ _ h => h) hH0 (by rfl) ?hyv ?onw
                                      case hyv =>
                                        intro wz hSw
                                        go_simp
                                        try rfl
                                      case onw =>
                                        try simp only [Act.put, List.setIfInBounds_toArray, List.set_cons_zero, List.set_cons_succ]
                                        refine' wpAnyL_take (i := 5) (oi := ⟨some 94, _, _, _, _, _⟩) (v := _) rfl (by kernel_rfl) (by kernel_rfl) (by kernel_rfl) (by kernel_rfl) (fun _ _ _ h => h) hH0 (by rfl) ?hyv ?onw
                                        case hyv =>
                                          intro wz hSw
                                          have zc0 := (hSw.cell (p := ⟨rb, 4, none⟩) yrb).trans t4
                                          go_simp
                                          try rfl
                                        case onw =>
                                          try simp only [Act.put, List.setIfInBounds_toArray, List.set_cons_zero, List.set_cons_succ]
                                          refine wpAnyL_one (i := 1) (o := _) rfl (by kernel_rfl) (by rfl) (fun K hK => ?_)
                                          go_simp
                                          refine (HC17.out wd0 hH0).mono ?_
                                          rintro eq wd1 ⟨v9, rfl, hO9, bq1⟩
                                          have hH1 : Below v5.heap.size v5 wd1 := hH0.trans (bq1.mono hH0.size)
                                          have HO9 := hide (longs_row hO9.row)
                                          clear hO9
                                          refine hK.out _ _ (fun _ => hH1) ?_
                                          clear hK K
                                          try simp only [Act.put, List.setIfInBounds_toArray, List.set_cons_zero, List.set_cons_succ]
                                          refine wpAnyL_one (i := 6) (o := _) rfl (by kernel_rfl) (by rfl) (fun K hK => ?_)
                                          go_simp
                                          refine (sameLongs_same HO9.out (HGI.out wd1 hH1)).mono ?_
                                          rintro eq wd2 ⟨rfl, bq2⟩
                                          have hH2 : Below v5.heap.size v5 wd2 := hH1.trans (bq2.mono hH1.size)
                                          refine hK.out _ _ (fun _ => hH2) ?_
                                          clear hK K
                                          try simp only [Act.put, List.setIfInBounds_toArray, List.set_cons_zero, List.set_cons_succ]
                                          refine' wpAnyL_take (i := 7) (oi := ⟨some 96, _, _, _, _, _⟩) (v := _) rfl (by kernel_rfl) (by kernel_rfl) (by kernel_rfl) (by kernel_rfl) (fun _ _ _ h => h) hH2 (by rfl) ?hyv ?onw
                                          case hyv =>
                                            intro wz hSw
                                            go_simp
                                            try rfl
                                          case onw =>
                                            try simp only [Act.put, List.setIfInBounds_toArray, List.set_cons_zero, List.set_cons_succ]
                                            refine wpAnyL_done (by kernel_rfl) ?_ _
                                            have BE := H5.trans (aside (S := [cb, gb]) hH2) H5.size
                                            have HNX := hide (show LB wd2 cb M' ∧ LB wd2 gb M' ∧ (M').length = nc ∧ Lo.Wd M' from ⟨kCz.under hH2, kGz.under hH2, hzl, hzw⟩)
                                            clear kCz kGz HGI
                                            go_wp2_with fail
                                            go_roundg (R.length - (i + 1))
                                            case measure => omega
                                            case rel => exact ⟨i + 1, M', by omega, rfl, by go_num, HNX, BE⟩
end Go.Proofs.YtgjdkgkgbmbffaaDoor
