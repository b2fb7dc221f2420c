import Derived.Test.YtbiomnnlpafciaaDoorT39
import Derived.Test.YtbiomnnlpafciaaDoorT35
import Derived.Test.YtbiomnnlpafciaaDoorT31
import Derived.WalkKit
import Derived.WalkSpells
import Derived.IntWalk
import Derived.Deep.Cut
import Derived.Deep.LoopGhost
import Derived.Laws.Cover1
import Derived.Lib.Hide
set_option linter.unusedVariables false
set_option linter.unusedSimpArgs false
set_option maxHeartbeats 64000000
set_option maxRecDepth 100000
namespace Go.Proofs.YtbiomnnlpafciaaDoor
open Go.RowKit Go.IntWalk
set_option linter.unusedVariables false
set_option linter.unusedSimpArgs false
/-- both results are stored -/
theorem nine_set {w : World} {bi bf : Nat} {t1 t2 : TypeId} {v0 v1 v2 v3 v4 v5 v6 y0 y1 : Value} (k : w.heap[bi]? = some (.cells #[v0, v1, v2, v3, v4, v5, v6] t1 (0, 0))) (kf : w.heap[bf]? = some (.cells #[y0, y1] t2 (0, 0))) (ne : bf ≠ bi) (u0 u1 u2 u3 u4 u5 u6 z0 z1 : Value) :
    (((((((((w.setCell ⟨bi, 0, none⟩ u0).setCell ⟨bi, 1, none⟩ u1).setCell ⟨bi, 2, none⟩ u2).setCell ⟨bi, 3, none⟩ u3).setCell ⟨bi, 4, none⟩ u4).setCell ⟨bi, 5, none⟩ u5).setCell ⟨bi, 6, none⟩ u6).setCell ⟨bf, 0, none⟩ z0).setCell ⟨bf, 1, none⟩ z1).heap[bi]? = some (.cells #[u0, u1, u2, u3, u4, u5, u6] t1 (0, 0)) ∧ (((((((((w.setCell ⟨bi, 0, none⟩ u0).setCell ⟨bi, 1, none⟩ u1).setCell ⟨bi, 2, none⟩ u2).setCell ⟨bi, 3, none⟩ u3).setCell ⟨bi, 4, none⟩ u4).setCell ⟨bi, 5, none⟩ u5).setCell ⟨bi, 6, none⟩ u6).setCell ⟨bf, 0, none⟩ z0).setCell ⟨bf, 1, none⟩ z1).heap[bf]? = some (.cells #[z0, z1] t2 (0, 0)) ∧ Aside [bi, bf] w.heap.size w (((((((((w.setCell ⟨bi, 0, none⟩ u0).setCell ⟨bi, 1, none⟩ u1).setCell ⟨bi, 2, none⟩ u2).setCell ⟨bi, 3, none⟩ u3).setCell ⟨bi, 4, none⟩ u4).setCell ⟨bi, 5, none⟩ u5).setCell ⟨bi, 6, none⟩ u6).setCell ⟨bf, 0, none⟩ z0).setCell ⟨bf, 1, none⟩ z1) := by
  have a1 : Aside [bi, bf] w.heap.size w (((((((w.setCell ⟨bi, 0, none⟩ u0).setCell ⟨bi, 1, none⟩ u1).setCell ⟨bi, 2, none⟩ u2).setCell ⟨bi, 3, none⟩ u3).setCell ⟨bi, 4, none⟩ u4).setCell ⟨bi, 5, none⟩ u5).setCell ⟨bi, 6, none⟩ u6) := aside_seven (by simp) u0 u1 u2 u3 u4 u5 u6
  have a1' : Aside [bi] w.heap.size w (((((((w.setCell ⟨bi, 0, none⟩ u0).setCell ⟨bi, 1, none⟩ u1).setCell ⟨bi, 2, none⟩ u2).setCell ⟨bi, 3, none⟩ u3).setCell ⟨bi, 4, none⟩ u4).setCell ⟨bi, 5, none⟩ u5).setCell ⟨bi, 6, none⟩ u6) := aside_seven (by simp) u0 u1 u2 u3 u4 u5 u6
  have k1 := seven_set k u0 u1 u2 u3 u4 u5 u6
  have kf1 := (a1'.block bf (lt_of kf) (by simpa using ne)).trans kf
  generalize (((((((w.setCell ⟨bi, 0, none⟩ u0).setCell ⟨bi, 1, none⟩ u1).setCell ⟨bi, 2, none⟩ u2).setCell ⟨bi, 3, none⟩ u3).setCell ⟨bi, 4, none⟩ u4).setCell ⟨bi, 5, none⟩ u5).setCell ⟨bi, 6, none⟩ u6) = w1 at a1 k1 kf1 ⊢
  have a2 : Aside [bf] w1.heap.size w1 ((w1.setCell ⟨bf, 0, none⟩ z0).setCell ⟨bf, 1, none⟩ z1) := aside_two (by simp) z0 z1
  have a3 : Aside [bi, bf] w1.heap.size w1 ((w1.setCell ⟨bf, 0, none⟩ z0).setCell ⟨bf, 1, none⟩ z1) := aside_two (by simp) z0 z1
  exact ⟨(a2.block bi (lt_of k1) (by simpa using ne.symm)).trans k1, two_set kf1 z0 z1, a1.trans a3 a1.size⟩
theorem aside_low {S : List Nat} {B : Nat} {w w1 w2 : World} (b : Below B w w1) (a : Aside S w1.heap.size w1 w2) (hB : B ≤ w.heap.size) (h : ∀ i ∈ S, B ≤ i) : Below B w w2 :=
  b.trans ⟨a.os, a.tape, a.output, a.size, fun k hk => a.block k (Nat.lt_of_lt_of_le hk (Nat.le_trans hB b.size)) (fun hm => absurd (h k hm) (by omega))⟩
theorem make_fault {L : Lo.Lp} {B : List Int} (h : (Lo.fault L).1 ≠ 0) : Em.make L B = (((Lo.fault L).1, (Lo.fault L).2), Em.noIm) := by
  unfold Em.make
  rw [if_pos h]
theorem make_many {L : Lo.Lp} {B : List Int} (h : (Lo.fault L).1 = 0) {i : Int} (hs : Em.mkS L.S 0 [] 3 = .inl i) : Em.make L B = ((7, i), Em.noIm) := by
  unfold Em.make
  rw [if_neg (by simpa using h), hs]
theorem make_code {L : Lo.Lp} {B : List Int} (h : (Lo.fault L).1 = 0) {C : List Cd.In} {R : Int} (hs : Em.mkS L.S 0 [] 3 = .inr (C, R)) : Em.make L B = if (Cd.fault (Em.img L B C R)).1 ≠ 0 then (Cd.fault (Em.img L B C R), Em.noIm) else ((0, 0), Em.img L B C R) := by
  unfold Em.make
  rw [if_neg (by simpa using h), hs]
theorem HInts.below {ok : Nat → Prop} {w w' : World} {v : Value} {l : List Int} (h : HInts ok w v l) (b : Below w.heap.size w w') : HInts ok w' v l := h.under b
theorem HInts.pastS {ok : Nat → Prop} {w w' : World} {v : Value} {l : List Int} (h : HInts ok w v l) {S : List Nat} (a : Aside S w.heap.size w w') (hS : ∀ i, ok i → i ∉ S) : HInts ok w' v l := h.keep a.size fun i hi hl => a.block i hl (hS i hi)
theorem clone25_any {ok : Nat → Prop} {w : World} {v : Value} {l : List Int} (N : Nat) (hl : HInts ok w v l) (hlen : l.length ≤ 1000000) (hN : N ≤ w.heap.size) : Calls Tryd.prog 25 #[v] w fun e w' => ∃ a c, e = .returned (.slice a l.length c) ∧ HInts (fun i => N ≤ i) w' (.slice a l.length c) l ∧ Below w.heap.size w w' := by
  refine (clone53_any (ok := ok) hl hlen).mono ?_
  rintro e w' ⟨v', rfl, o, b⟩
  obtain ⟨a, c, rfl, -, -⟩ := o.form
  exact ⟨a, c, rfl, (ints_row o.row).wide (fun i h _ => Nat.le_trans hN h), b⟩
set_option maxHeartbeats 32000000 in
theorem make8_any {okL okB : Nat → Prop} {w : World} {aP aG aS aB : Option Addr} {cP cG cS cB : Nat} {L : Lo.Lp} {B : List Int} (hK : GlobK w) (hL : HLp okL w aP aG aS cP cG cS L) (hB : HInts okB w (.slice aB B.length cB) B) (hPl : L.P.length ≤ 1000000) (hGl : L.G.length ≤ 1000000) (hSl : L.S.length ≤ 1000000) (hBl : B.length ≤ 1000000) :
    Calls Tryd.prog 8 #[.agg #[.int .i64 L.c, .slice aP L.P.length cP, .slice aG L.G.length cG, .slice aS L.S.length cS], .slice aB B.length cB] w (MakeP (fun i => w.heap.size ≤ i) w L B) := by
  have hL0 : HLp (fun i => i < w.heap.size) w aP aG aS cP cG cS L := ⟨hL.P.wide fun _ _ h => h, hL.G.wide fun _ _ h => h, hL.S.wide fun _ _ h => h, hL.W⟩
  have hB0 := hB.wide (ok' := fun i => i < w.heap.size) fun _ _ h => h
  have b1 : Below w.heap.size w (((w.alloc (.cells #[.int .i64 L.c, .slice aP L.P.length cP, .slice aG L.G.length cG, .slice aS L.S.length cS] 25 (0, 0))).alloc (.cells #[.int .i64 0, .int .i64 0, .int .i64 0, .slice none 0 0, .slice none 0 0, .slice none 0 0, .slice none 0 0] 31 (0, 0))).alloc (.cells #[.int .i64 0, .int .i64 0] 33 (0, 0))) := (((Below.refl _ _).alloc (Nat.le_refl _) _).alloc (by simp) _).alloc (by simp; omega) _
  have kR : ((((w.alloc (.cells #[.int .i64 L.c, .slice aP L.P.length cP, .slice aG L.G.length cG, .slice aS L.S.length cS] 25 (0, 0))).alloc (.cells #[.int .i64 0, .int .i64 0, .int .i64 0, .slice none 0 0, .slice none 0 0, .slice none 0 0, .slice none 0 0] 31 (0, 0))).alloc (.cells #[.int .i64 0, .int .i64 0] 33 (0, 0)))).heap[w.heap.size]? = some (.cells #[.int .i64 L.c, .slice aP L.P.length cP, .slice aG L.G.length cG, .slice aS L.S.length cS] 25 (0, 0)) := (Below.heap_alloc _ _ _ (by simp; omega)).trans ((Below.heap_alloc _ _ _ (by simp)).trans (heap_new w _))
  have kI : ((((w.alloc (.cells #[.int .i64 L.c, .slice aP L.P.length cP, .slice aG L.G.length cG, .slice aS L.S.length cS] 25 (0, 0))).alloc (.cells #[.int .i64 0, .int .i64 0, .int .i64 0, .slice none 0 0, .slice none 0 0, .slice none 0 0, .slice none 0 0] 31 (0, 0))).alloc (.cells #[.int .i64 0, .int .i64 0] 33 (0, 0)))).heap[w.heap.size + 1]? = some (.cells #[.int .i64 0, .int .i64 0, .int .i64 0, .slice none 0 0, .slice none 0 0, .slice none 0 0, .slice none 0 0] 31 (0, 0)) := (Below.heap_alloc _ _ _ (by simp)).trans (by
    have := heap_new (w.alloc (.cells #[.int .i64 L.c, .slice aP L.P.length cP, .slice aG L.G.length cG, .slice aS L.S.length cS] 25 (0, 0))) (.cells #[.int .i64 0, .int .i64 0, .int .i64 0, .slice none 0 0, .slice none 0 0, .slice none 0 0, .slice none 0 0] 31 (0, 0))
    simpa using this)
  have kF : ((((w.alloc (.cells #[.int .i64 L.c, .slice aP L.P.length cP, .slice aG L.G.length cG, .slice aS L.S.length cS] 25 (0, 0))).alloc (.cells #[.int .i64 0, .int .i64 0, .int .i64 0, .slice none 0 0, .slice none 0 0, .slice none 0 0, .slice none 0 0] 31 (0, 0))).alloc (.cells #[.int .i64 0, .int .i64 0] 33 (0, 0)))).heap[w.heap.size + 2]? = some (.cells #[.int .i64 0, .int .i64 0] 33 (0, 0)) := by
    have := heap_new ((w.alloc (.cells #[.int .i64 L.c, .slice aP L.P.length cP, .slice aG L.G.length cG, .slice aS L.S.length cS] 25 (0, 0))).alloc (.cells #[.int .i64 0, .int .i64 0, .int .i64 0, .slice none 0 0, .slice none 0 0, .slice none 0 0, .slice none 0 0] 31 (0, 0))) (.cells #[.int .i64 0, .int .i64 0] 33 (0, 0))
    simpa using this
  have zw : w.heap.size + 3 ≤ ((((w.alloc (.cells #[.int .i64 L.c, .slice aP L.P.length cP, .slice aG L.G.length cG, .slice aS L.S.length cS] 25 (0, 0))).alloc (.cells #[.int .i64 0, .int .i64 0, .int .i64 0, .slice none 0 0, .slice none 0 0, .slice none 0 0, .slice none 0 0] 31 (0, 0))).alloc (.cells #[.int .i64 0, .int .i64 0] 33 (0, 0)))).heap.size := by simp
  have HL := hide (hL0.under b1)
  have HB := hide (hB0.under b1)
  have HK := hide (hK.under b1)
  have HC := hide (fun W (b : Below w.heap.size w W) => check7_any (hK.under b) (hL.under b))
  have hgood := fun (h : (Lo.fault L).1 = 0) => Lo.good_of h
  have HGood := hide hgood
  clear hL hL0 hB hB0 hK hgood
  go_enter Tryd.func8, Tryd.ntmps8
  go_upto_region 1 with fail
  generalize (((w.alloc (.cells #[.int .i64 L.c, .slice aP L.P.length cP, .slice aG L.G.length cG, .slice aS L.S.length cS] 25 (0, 0))).alloc (.cells #[.int .i64 0, .int .i64 0, .int .i64 0, .slice none 0 0, .slice none 0 0, .slice none 0 0, .slice none 0 0] 31 (0, 0))).alloc (.cells #[.int .i64 0, .int .i64 0] 33 (0, 0))) = w1 at b1 kR kI kF zw HL HB HK ⊢
  have c0 := cell_of kR 0
  have c1 := cell_of kR 1
  have c2 := cell_of kR 2
  have c3 := cell_of kR 3
  simp at c0 c1 c2 c3
  obtain ⟨f1, hf1⟩ : ∃ f1, f1 = (Lo.fault L).1 := ⟨_, rfl⟩
  obtain ⟨f2, hf2⟩ : ∃ f2, f2 = (Lo.fault L).2 := ⟨_, rfl⟩
  have hc1 := HC.out w1 b1
  rw [← hf1, ← hf2] at hc1
  have HC1 := hide hc1
  have HF1 := hide hf1
  have HF2 := hide hf2
  clear HC hc1 hf1 hf2
  go_wp2_with fail
  refine HC1.out.mono ?_
  rintro e w2 ⟨rfl, b2⟩
  have B2 := b1.trans (b2.mono b1.size)
  have kR2 := (b2.block _ (lt_of kR)).trans kR
  have kI2 := (b2.block _ (lt_of kI)).trans kI
  have kF2 := (b2.block _ (lt_of kF)).trans kF
  have HL2 := hide (HL.out.under b2)
  have HB2 := hide (HB.out.under b2)
  have HK2 := hide (HK.out.under b2)
  have zw2 := Nat.le_trans zw b2.size
  clear c0 c1 c2 c3 kR kI kF HL HB HK HC1 b1 b2
  have b3 : Below w2.heap.size w2 (w2.alloc (.cells #[.int .i64 f1, .int .i64 f2] 33 (0, 0))) := (Below.refl _ _).alloc (Nat.le_refl _) _
  have k4 := heap_new w2 (.cells #[.int .i64 f1, .int .i64 f2] 33 (0, 0))
  go_upto_region 2 with fail
  generalize w2.alloc (.cells #[.int .i64 f1, .int .i64 f2] 33 (0, 0)) = w3 at b3 k4 ⊢
  have B3 := B2.trans (b3.mono B2.size)
  have kR3 := (b3.block _ (lt_of kR2)).trans kR2
  have kI3 := (b3.block _ (lt_of kI2)).trans kI2
  have kF3 := (b3.block _ (lt_of kF2)).trans kF2
  have HL3 := hide (HL2.out.under b3)
  have HB3 := hide (HB2.out.under b3)
  have HK3 := hide (HK2.out.under b3)
  have zw3 := Nat.le_trans zw2 b3.size
  clear kR2 kI2 kF2 HL2 HB2 HK2 b3 B2
  have g0 := cell_of k4 0
  have g1 := cell_of k4 1
  simp at g0 g1
  have c0 := cell_of kR3 0
  have c1 := cell_of kR3 1
  have c2 := cell_of kR3 2
  have c3 := cell_of kR3 3
  simp at c0 c1 c2 c3
  have y4 := lt_of k4
  have yR := lt_of kR3
  have yI := lt_of kI3
  have yF := lt_of kF3
  by_cases hz : f1 = 0
  case neg =>
    have hzb : (f1 != 0) = true := by simpa using hz
    have HMk := hide (show Em.make L B = ((f1, f2), Em.noIm) by rw [HF1.out, HF2.out]; exact make_fault (by rw [← HF1.out]; exact hz))
    have hne : w.heap.size + 2 ≠ w.heap.size + 1 := by omega
    go_upto_region 3 with fail
    refine wp_region_late (fun w' => Aside [w.heap.size + 1, w.heap.size + 2] w3.heap.size w3 w') (fun _ => false) (by kernel_rfl) ?_
    have hH0 : Aside [w.heap.size + 1, w.heap.size + 2] w3.heap.size w3 w3.drew := (Aside.refl _).drew
    have KI0 : w3.drew.heap[w.heap.size + 1]? = some (.cells #[.int .i64 0, .int .i64 0, .int .i64 0, .slice none 0 0, .slice none 0 0, .slice none 0 0, .slice none 0 0] 31 (0, 0)) := kI3
    have KF0 : w3.drew.heap[w.heap.size + 2]? = some (.cells #[.int .i64 0, .int .i64 0] 33 (0, 0)) := kF3
    generalize w3.drew = wd0 at hH0 KI0 KF0 ⊢
    refine' wpAnyL_take (i := 0) (oi := ⟨some 17, _, _, _, _, _⟩) (v := _) rfl (by kernel_rfl) (by kernel_rfl) (by kernel_rfl) (by kernel_rfl) (fun _ _ _ h => h) hH0 (by rfl) ?hyv ?onw
    case hyv =>
      intro wz hSw
      go_simp
      try rfl
    case onw =>
      try simp only [Act.put, List.setIfInBounds_toArray, List.set_cons_zero, List.set_cons_succ]
      refine' wpAnyL_take (i := 1) (oi := ⟨some 18, _, _, _, _, _⟩) (v := _) rfl (by kernel_rfl) (by kernel_rfl) (by kernel_rfl) (by kernel_rfl) (fun _ _ _ h => h) hH0 (by rfl) ?hyv ?onw
      case hyv =>
        intro wz hSw
        have zc0 := (aside_cell hSw (p := ⟨w2.heap.size, 0, none⟩) y4 (by simp; omega)).trans g0
        have zc1 := (aside_cell hSw (p := ⟨w2.heap.size, 1, none⟩) y4 (by simp; omega)).trans g1
        go_simp
        try rfl
      case onw =>
        try simp only [Act.put, List.setIfInBounds_toArray, List.set_cons_zero, List.set_cons_succ]
        refine wpAnyL_one (i := 2) (o := _) rfl (by kernel_rfl) (by rfl) (fun K hK => ?_)
        have kX := KI0
        have st0 := cell_of kX 0
        have st1 := cell_of kX 1
        have st2 := cell_of kX 2
        have st3 := cell_of kX 3
        have st4 := cell_of kX 4
        have st5 := cell_of kX 5
        have st6 := cell_of kX 6
        have fst0 := free_of kX 0
        have fst1 := free_of kX 1
        have fst2 := free_of kX 2
        have fst3 := free_of kX 3
        have fst4 := free_of kX 4
        have fst5 := free_of kX 5
        have fst6 := free_of kX 6
        simp at st0 st1 st2 st3 st4 st5 st6
        have KI := seven_set kX (.int .i64 0) (.int .i64 0) (.int .i64 0) (.slice none 0 0) (.slice none 0 0) (.slice none 0 0) (.slice none 0 0)
        have a0 : Aside [w.heap.size + 1, w.heap.size + 2] wd0.heap.size wd0 (((((((wd0.setCell ⟨w.heap.size + 1, 0, none⟩ (.int .i64 0)).setCell ⟨w.heap.size + 1, 1, none⟩ (.int .i64 0)).setCell ⟨w.heap.size + 1, 2, none⟩ (.int .i64 0)).setCell ⟨w.heap.size + 1, 3, none⟩ (.slice none 0 0)).setCell ⟨w.heap.size + 1, 4, none⟩ (.slice none 0 0)).setCell ⟨w.heap.size + 1, 5, none⟩ (.slice none 0 0)).setCell ⟨w.heap.size + 1, 6, none⟩ (.slice none 0 0)) := aside_seven (by simp) (.int .i64 0) (.int .i64 0) (.int .i64 0) (.slice none 0 0) (.slice none 0 0) (.slice none 0 0) (.slice none 0 0)
        have a7 : Aside [w.heap.size + 1] wd0.heap.size wd0 (((((((wd0.setCell ⟨w.heap.size + 1, 0, none⟩ (.int .i64 0)).setCell ⟨w.heap.size + 1, 1, none⟩ (.int .i64 0)).setCell ⟨w.heap.size + 1, 2, none⟩ (.int .i64 0)).setCell ⟨w.heap.size + 1, 3, none⟩ (.slice none 0 0)).setCell ⟨w.heap.size + 1, 4, none⟩ (.slice none 0 0)).setCell ⟨w.heap.size + 1, 5, none⟩ (.slice none 0 0)).setCell ⟨w.heap.size + 1, 6, none⟩ (.slice none 0 0)) := aside_seven (by simp) (.int .i64 0) (.int .i64 0) (.int .i64 0) (.slice none 0 0) (.slice none 0 0) (.slice none 0 0) (.slice none 0 0)
        have KF0 := (a7.block _ (lt_of KF0) (by simp <;> omega)).trans KF0
        have hH1 : Aside [w.heap.size + 1, w.heap.size + 2] w3.heap.size w3 (((((((wd0.setCell ⟨w.heap.size + 1, 0, none⟩ (.int .i64 0)).setCell ⟨w.heap.size + 1, 1, none⟩ (.int .i64 0)).setCell ⟨w.heap.size + 1, 2, none⟩ (.int .i64 0)).setCell ⟨w.heap.size + 1, 3, none⟩ (.slice none 0 0)).setCell ⟨w.heap.size + 1, 4, none⟩ (.slice none 0 0)).setCell ⟨w.heap.size + 1, 5, none⟩ (.slice none 0 0)).setCell ⟨w.heap.size + 1, 6, none⟩ (.slice none 0 0)) := hH0.trans a0 hH0.size
        go_simp
        refine hK.out _ _ (fun _ => hH1) ?_
        clear hK K a0 a7 kX st0 fst0 st1 fst1 st2 fst2 st3 fst3 st4 fst4 st5 fst5 st6 fst6
        try simp only [Act.put, List.setIfInBounds_toArray, List.set_cons_zero, List.set_cons_succ]
        generalize (((((((wd0.setCell ⟨w.heap.size + 1, 0, none⟩ (.int .i64 0)).setCell ⟨w.heap.size + 1, 1, none⟩ (.int .i64 0)).setCell ⟨w.heap.size + 1, 2, none⟩ (.int .i64 0)).setCell ⟨w.heap.size + 1, 3, none⟩ (.slice none 0 0)).setCell ⟨w.heap.size + 1, 4, none⟩ (.slice none 0 0)).setCell ⟨w.heap.size + 1, 5, none⟩ (.slice none 0 0)).setCell ⟨w.heap.size + 1, 6, none⟩ (.slice none 0 0)) = wd1 at hH1 KI KF0 ⊢
        refine wpAnyL_one (i := 3) (o := _) rfl (by kernel_rfl) (by rfl) (fun K hK => ?_)
        have kX := KF0
        have st0 := cell_of kX 0
        have st1 := cell_of kX 1
        have fst0 := free_of kX 0
        have fst1 := free_of kX 1
        simp at st0 st1
        have KF := two_set kX (.int .i64 f1) (.int .i64 f2)
        have a0 : Aside [w.heap.size + 1, w.heap.size + 2] wd1.heap.size wd1 ((wd1.setCell ⟨w.heap.size + 2, 0, none⟩ (.int .i64 f1)).setCell ⟨w.heap.size + 2, 1, none⟩ (.int .i64 f2)) := aside_two (by simp) (.int .i64 f1) (.int .i64 f2)
        have a7 : Aside [w.heap.size + 2] wd1.heap.size wd1 ((wd1.setCell ⟨w.heap.size + 2, 0, none⟩ (.int .i64 f1)).setCell ⟨w.heap.size + 2, 1, none⟩ (.int .i64 f2)) := aside_two (by simp) (.int .i64 f1) (.int .i64 f2)
        have KI := (a7.block _ (lt_of KI) (by simp <;> omega)).trans KI
        have hH2 : Aside [w.heap.size + 1, w.heap.size + 2] w3.heap.size w3 ((wd1.setCell ⟨w.heap.size + 2, 0, none⟩ (.int .i64 f1)).setCell ⟨w.heap.size + 2, 1, none⟩ (.int .i64 f2)) := hH1.trans a0 hH1.size
        go_simp
        refine hK.out _ _ (fun _ => hH2) ?_
        clear hK K a0 a7 kX st0 fst0 st1 fst1
        try simp only [Act.put, List.setIfInBounds_toArray, List.set_cons_zero, List.set_cons_succ]
        generalize ((wd1.setCell ⟨w.heap.size + 2, 0, none⟩ (.int .i64 f1)).setCell ⟨w.heap.size + 2, 1, none⟩ (.int .i64 f2)) = wd2 at hH2 KF KI ⊢
        refine wpAnyL_done (by kernel_rfl) ?_ _
        have x0 := cell_of KI 0
        have x1 := cell_of KI 1
        have x2 := cell_of KI 2
        have x3 := cell_of KI 3
        have x4 := cell_of KI 4
        have x5 := cell_of KI 5
        have x6 := cell_of KI 6
        simp at x0 x1 x2 x3 x4 x5 x6
        have z0 := cell_of KF 0
        have z1 := cell_of KF 1
        simp at z0 z1
        have BX := aside_low B3 hH2 (Nat.le_refl _) (by simp)
        go_wp2
        exact bodyPost_ret (v := .tuple #[.agg #[.int .i64 0, .int .i64 0, .int .i64 0, .slice none 0 0, .slice none 0 0, .slice none 0 0, .slice none 0 0], .agg #[.int .i64 f1, .int .i64 f2]]) (by simp [results, Tryd.results8, go_sem, x0, x1, x2, x3, x4, x5, x6, z0, z1]) rfl (MakeP.bad HMk.out BX)
  case pos =>
    subst hz
    have hf0 : (Lo.fault L).1 = 0 := HF1.out.symm
    have HGd := hide (HGood.out hf0)
    have HF0 := hide hf0
    clear HGood hf0
    have hlens := Lo.lens_of HF0.out
    have b4 : Below w3.heap.size w3 (w3.alloc (.cells #[.slice none 0 0, .int .i64 3] 64 (0, 0))) := (Below.refl _ _).alloc (Nat.le_refl _) _
    have k5 := heap_new w3 (.cells #[.slice none 0 0, .int .i64 3] 64 (0, 0))
    have zcb : w3.heap.size < (w3.alloc (.cells #[.slice none 0 0, .int .i64 3] 64 (0, 0))).heap.size := by simp
    go_upto_region 5 with fail
    generalize w3.alloc (.cells #[.slice none 0 0, .int .i64 3] 64 (0, 0)) = w4 at b4 k5 zcb ⊢
    have B4 := B3.trans (b4.mono B3.size)
    have kR4 := (b4.block _ (lt_of kR3)).trans kR3
    have kI4 := (b4.block _ (lt_of kI3)).trans kI3
    have kF4 := (b4.block _ (lt_of kF3)).trans kF3
    have HL4 := hide (HL3.out.under b4)
    have HB4 := hide (HB3.out.under b4)
    have HK4 := hide (HK3.out.under b4)
    have hcb3 : w.heap.size + 3 ≤ w3.heap.size := by omega
    have HCO := hide (show CO w4 w3.heap.size w3.heap.size (.slice none 0 0) [] 3 from ⟨k5, OwnX.nil, zcb⟩)
    have HM0 := hide (show Em.mkS L.S 0 [] 3 = Em.mkS (L.S.drop 0) ((0 : Nat) : Int) [] 3 by rw [List.drop_zero]; rfl)
    clear kR3 kI3 kF3 HL3 HB3 HK3 b4 k5 g0 g1 k4 y4 c0 c1 c2 c3 yR yI yF
    obtain ⟨ns, hns⟩ : ∃ ns, ns = L.S.length := ⟨_, rfl⟩
    rw [← hns] at kR4 hlens
    have HNS := hide hns
    clear hns
    have c0 := cell_of kR4 0
    have c1 := cell_of kR4 1
    have c2 := cell_of kR4 2
    have c3 := cell_of kR4 3
    simp at c0 c1 c2 c3
    have yR := lt_of kR4
    go_wp2_with fail
    go_loopg [23] ns (fun kz v23 wr => ∃ (i k' : Nat) (v' : Value) (C : List Cd.In) (R : Int), i ≤ ns ∧ kz = ns - i ∧ v23 = .int .i64 (i : Nat) ∧ Hid (Em.mkS L.S 0 [] 3 = Em.mkS (L.S.drop i) (i : Int) C R) ∧ Hid (CO wr w3.heap.size k' v' C R ∧ (k' = w3.heap.size ∨ w4.heap.size ≤ k') ∧ C.length ≤ 200000 ∧ R ≤ 40) ∧ Aside [w3.heap.size, w3.heap.size] w4.heap.size w4 wr)
    case atStart => exact ⟨0, w3.heap.size, .slice none 0 0, [], 3, Nat.zero_le _, rfl, rfl, HM0, hide ⟨HCO.out, .inl rfl, by simp, by decide⟩, Aside.refl _⟩
    case round =>
      clear HM0 HCO c0 c1 c2 c3
      obtain ⟨i, k', v', C, R, hi, rfl, rfl, H, HC, abr⟩ := hrel
      have kRr := (abr.block _ yR (by simp; omega)).trans kR4
      have kIr := (abr.block _ (lt_of kI4) (by simp; omega)).trans kI4
      have kFr := (abr.block _ (lt_of kF4) (by simp; omega)).trans kF4
      by_cases hlt : i < ns
      case neg =>
        have hin : i = ns := by omega
        subst hin
        obtain ⟨o1, o2, o3, o4⟩ := HC.out
        obtain ⟨av, cv, rfl, -, -⟩ := o1.own.form
        have HMKS := hide (show Em.mkS L.S 0 [] 3 = .inr (C, R) by rw [H.out, List.drop_of_length_le (by have := HNS.out; omega)]; rfl)
        have hcode : HIns (fun j => w.heap.size + 3 ≤ j ∧ j < wr.heap.size) wr (.slice av C.length cv) C := HRow.wide o1.own.row (fun j hj hl => ⟨by rcases o2 with h | h <;> omega, hl⟩)
        have m0 := cell_of o1.m 0
        have m1 := cell_of o1.m 1
        simp at m0 m1
        have ym := lt_of o1.m
        have HCost := hide (fun W (b : Below wr.heap.size wr W) => cost10_any (hcode.under b) (by omega))
        obtain ⟨ln, hln⟩ : ∃ ln, ln = C.length := ⟨_, rfl⟩
        have HCode := hide hcode
        have HLn := hide hln
        rw [← hln] at m0 HCost
        obtain ⟨ko, hko⟩ : ∃ ko, ko = Cd.cost 10 11 C := ⟨_, rfl⟩
        rw [← hko] at HCost
        have HKo := hide hko
        have HRs := hide (Em.img_ok HF0.out HMKS.out)
        have BR := aside_low B4 abr (Nat.le_refl _) (by simp; omega)
        have HLr := hide (show HLp (fun i => i < w.heap.size) wr aP aG aS cP cG cS L from HL4.out.keep abr.size (fun j hj hl => abr.block j hl (by simp; omega)))
        have HBr := hide (show HInts (fun i => i < w.heap.size) wr (.slice aB B.length cB) B from HB4.out.keep abr.size (fun j hj hl => abr.block j hl (by simp; omega)))
        have HKr := hide (show GlobK wr from ⟨Nat.lt_of_lt_of_le HK4.out.1 abr.size, fun q hq => by
          have h0 : ∀ o, wr.cell? ⟨0, o, none⟩ = w4.cell? ⟨0, o, none⟩ := fun o => aside_cell abr (p := ⟨0, o, none⟩) HK4.out.1 (by simp; omega)
          rw [h0, h0, h0]
          exact HK4.out.2 q hq⟩)
        have c0 := cell_of kRr 0
        have c1 := cell_of kRr 1
        have c2 := cell_of kRr 2
        have c3 := cell_of kRr 3
        simp at c0 c1 c2 c3
        have yRr := lt_of kRr
        have HKI := hide (And.intro kIr kFr)
        clear o1 o2 o3 o4 hcode hln hko HC H kIr kFr kR4 kI4 kF4 HL4 HB4 HK4 yR HNS HGd
        obtain ⟨w5, hw5⟩ : ∃ x, x = wr := ⟨_, rfl⟩
        subst hw5
        go_upto_region 12 with fail
        go_cut [10] (fun v wd => ∃ (mb : Nat), v = .pointer (some ⟨mb, 0, none⟩) ∧ Hid (wd.heap[mb]? = some (.cells #[.int .i64 L.c, .int .i64 R, .int .i64 ko, .slice none 0 0, .slice none 0 0, .slice none 0 0, .slice av ln cv] 31 (0, 0)) ∧ w5.heap.size ≤ mb) ∧ Below w5.heap.size w5 wd)
        case first =>
          refine wp_region_late (fun w' => Below w5.heap.size w5 w') (fun i => i == 11) (by kernel_rfl) ?_
          have hH0 : Below w5.heap.size w5 w5.drew := (Below.refl _ _).drew
          generalize w5.drew = wd0 at hH0 ⊢
          refine' wpAnyL_take (i := 0) (oi := ⟨some 35, _, _, _, _, _⟩) (v := _) rfl (by kernel_rfl) (by kernel_rfl) (by kernel_rfl) (by kernel_rfl) (fun _ _ _ h => h) hH0 (by rfl) ?hyv ?onw
          case hyv =>
            intro wz hSw
            go_simp
            try rfl
          case onw =>
            try simp only [Act.put, List.setIfInBounds_toArray, List.set_cons_zero, List.set_cons_succ]
            refine' wpAnyL_take (i := 1) (oi := ⟨some 36, _, _, _, _, _⟩) (v := _) rfl (by kernel_rfl) (by kernel_rfl) (by kernel_rfl) (by kernel_rfl) (fun _ _ _ h => h) hH0 (by rfl) ?hyv ?onw
            case hyv =>
              intro wz hSw
              have zc0 := (hSw.cell (p := ⟨w.heap.size, 0, none⟩) yRr).trans c0
              have zc1 := (hSw.cell (p := ⟨w.heap.size, 1, none⟩) yRr).trans c1
              have zc2 := (hSw.cell (p := ⟨w.heap.size, 2, none⟩) yRr).trans c2
              have zc3 := (hSw.cell (p := ⟨w.heap.size, 3, none⟩) yRr).trans c3
              have zc4 := (hSw.cell (p := ⟨w3.heap.size, 0, none⟩) ym).trans m0
              have zc5 := (hSw.cell (p := ⟨w3.heap.size, 1, none⟩) ym).trans m1
              go_simp
              try rfl
            case onw =>
              try simp only [Act.put, List.setIfInBounds_toArray, List.set_cons_zero, List.set_cons_succ]
              refine' wpAnyL_take (i := 2) (oi := ⟨some 37, _, _, _, _, _⟩) (v := _) rfl (by kernel_rfl) (by kernel_rfl) (by kernel_rfl) (by kernel_rfl) (fun _ _ _ h => h) hH0 (by rfl) ?hyv ?onw
              case hyv =>
                intro wz hSw
                go_simp
                try rfl
              case onw =>
                try simp only [Act.put, List.setIfInBounds_toArray, List.set_cons_zero, List.set_cons_succ]
                refine' wpAnyL_take (i := 3) (oi := ⟨some 38, _, _, _, _, _⟩) (v := _) rfl (by kernel_rfl) (by kernel_rfl) (by kernel_rfl) (by kernel_rfl) (fun _ _ _ h => h) hH0 (by rfl) ?hyv ?onw
                case hyv =>
                  intro wz hSw
                  have zc0 := (hSw.cell (p := ⟨w.heap.size, 0, none⟩) yRr).trans c0
                  have zc1 := (hSw.cell (p := ⟨w.heap.size, 1, none⟩) yRr).trans c1
                  have zc2 := (hSw.cell (p := ⟨w.heap.size, 2, none⟩) yRr).trans c2
                  have zc3 := (hSw.cell (p := ⟨w.heap.size, 3, none⟩) yRr).trans c3
                  have zc4 := (hSw.cell (p := ⟨w3.heap.size, 0, none⟩) ym).trans m0
                  have zc5 := (hSw.cell (p := ⟨w3.heap.size, 1, none⟩) ym).trans m1
                  go_simp
                  try rfl
                case onw =>
                  try simp only [Act.put, List.setIfInBounds_toArray, List.set_cons_zero, List.set_cons_succ]
                  refine' wpAnyL_take (i := 4) (oi := ⟨some 39, _, _, _, _, _⟩) (v := _) rfl (by kernel_rfl) (by kernel_rfl) (by kernel_rfl) (by kernel_rfl) (fun _ _ _ h => h) hH0 (by rfl) ?hyv ?onw
                  case hyv =>
                    intro wz hSw
                    go_simp
                    try rfl
                  case onw =>
                    try simp only [Act.put, List.setIfInBounds_toArray, List.set_cons_zero, List.set_cons_succ]
                    refine' wpAnyL_take (i := 5) (oi := ⟨some 40, _, _, _, _, _⟩) (v := _) rfl (by kernel_rfl) (by kernel_rfl) (by kernel_rfl) (by kernel_rfl) (fun _ _ _ h => h) hH0 (by rfl) ?hyv ?onw
                    case hyv =>
                      intro wz hSw
                      have zc0 := (hSw.cell (p := ⟨w.heap.size, 0, none⟩) yRr).trans c0
                      have zc1 := (hSw.cell (p := ⟨w.heap.size, 1, none⟩) yRr).trans c1
                      have zc2 := (hSw.cell (p := ⟨w.heap.size, 2, none⟩) yRr).trans c2
                      have zc3 := (hSw.cell (p := ⟨w.heap.size, 3, none⟩) yRr).trans c3
                      have zc4 := (hSw.cell (p := ⟨w3.heap.size, 0, none⟩) ym).trans m0
                      have zc5 := (hSw.cell (p := ⟨w3.heap.size, 1, none⟩) ym).trans m1
                      go_simp
                      try rfl
                    case onw =>
                      try simp only [Act.put, List.setIfInBounds_toArray, List.set_cons_zero, List.set_cons_succ]
                      refine' wpAnyL_take (i := 7) (oi := ⟨some 42, _, _, _, _, _⟩) (v := _) rfl (by kernel_rfl) (by kernel_rfl) (by kernel_rfl) (by kernel_rfl) (fun _ _ _ h => h) hH0 (by rfl) ?hyv ?onw
                      case hyv =>
                        intro wz hSw
                        go_simp
                        try rfl
                      case onw =>
                        try simp only [Act.put, List.setIfInBounds_toArray, List.set_cons_zero, List.set_cons_succ]
                        refine' wpAnyL_take (i := 8) (oi := ⟨some 43, _, _, _, _, _⟩) (v := _) rfl (by kernel_rfl) (by kernel_rfl) (by kernel_rfl) (by kernel_rfl) (fun _ _ _ h => h) hH0 (by rfl) ?hyv ?onw
                        case hyv =>
                          intro wz hSw
                          have zc0 := (hSw.cell (p := ⟨w.heap.size, 0, none⟩) yRr).trans c0
                          have zc1 := (hSw.cell (p := ⟨w.heap.size, 1, none⟩) yRr).trans c1
                          have zc2 := (hSw.cell (p := ⟨w.heap.size, 2, none⟩) yRr).trans c2
                          have zc3 := (hSw.cell (p := ⟨w.heap.size, 3, none⟩) yRr).trans c3
                          have zc4 := (hSw.cell (p := ⟨w3.heap.size, 0, none⟩) ym).trans m0
                          have zc5 := (hSw.cell (p := ⟨w3.heap.size, 1, none⟩) ym).trans m1
                          go_simp
                          try rfl
                        case onw =>
                          try simp only [Act.put, List.setIfInBounds_toArray, List.set_cons_zero, List.set_cons_succ]
                          refine wpAnyL_two (i := 6) (j := 10) rfl rfl (by kernel_rfl) (by rfl) (by rfl) (fun K hK => ?_) (fun K hK => ?_)
                          case _ =>
                            go_simp
                            refine (HCost.out wd0 hH0).mono ?_
                            rintro eq wd1 ⟨rfl, bq1⟩
                            have hH1 : Below w5.heap.size w5 wd1 := hH0.trans (bq1.mono hH0.size)
                            refine hK.out _ _ (fun _ => hH1) ?_
                            clear hK K
                            try simp only [Act.put, List.setIfInBounds_toArray, List.set_cons_zero, List.set_cons_succ]
                            refine' wpAnyL_take (i := 9) (oi := ⟨some 44, _, _, _, _, _⟩) (v := _) rfl (by kernel_rfl) (by kernel_rfl) (by kernel_rfl) (by kernel_rfl) (fun _ _ _ h => h) hH1 (by rfl) ?hyv ?onw
                            case hyv =>
                              intro wz hSw
                              go_simp
                              try rfl
                            case onw =>
                              try simp only [Act.put, List.setIfInBounds_toArray, List.set_cons_zero, List.set_cons_succ]
                              refine wpAnyL_one (i := 10) (o := _) rfl (by kernel_rfl) (by rfl) (fun K hK => ?_)
                              go_simp
                              have hH2 : Below w5.heap.size w5 (wd1.alloc (.cells #[.int .i64 0, .int .i64 0, .int .i64 0, .slice none 0 0, .slice none 0 0, .slice none 0 0, .slice none 0 0] 31 (0, 0))) := hH1.alloc hH1.size _
                              have kn2 := heap_new wd1 (.cells #[.int .i64 0, .int .i64 0, .int .i64 0, .slice none 0 0, .slice none 0 0, .slice none 0 0, .slice none 0 0] 31 (0, 0))
                              have zn2 := hH1.size
                              refine hK.out _ _ (fun _ => hH2) ?_
                              clear hK K
                              try simp only [Act.put, List.setIfInBounds_toArray, List.set_cons_zero, List.set_cons_succ]
                              generalize wd1.alloc (.cells #[.int .i64 0, .int .i64 0, .int .i64 0, .slice none 0 0, .slice none 0 0, .slice none 0 0, .slice none 0 0] 31 (0, 0)) = wd2 at hH2 kn2 ⊢
                              refine wpAnyL_one (i := 11) (o := _) rfl (by kernel_rfl) (by rfl) (fun K hK => ?_)
                              have st0 := cell_of kn2 0
                              have st1 := cell_of kn2 1
                              have st2 := cell_of kn2 2
                              have st3 := cell_of kn2 3
                              have st4 := cell_of kn2 4
                              have st5 := cell_of kn2 5
                              have st6 := cell_of kn2 6
                              have fst0 := free_of kn2 0
                              have fst1 := free_of kn2 1
                              have fst2 := free_of kn2 2
                              have fst3 := free_of kn2 3
                              have fst4 := free_of kn2 4
                              have fst5 := free_of kn2 5
                              have fst6 := free_of kn2 6
                              simp at st0 st1 st2 st3 st4 st5 st6
                              have KM := seven_set kn2 (.int .i64 L.c) (.int .i64 R) (.int .i64 ko) (.slice none 0 0) (.slice none 0 0) (.slice none 0 0) (.slice av ln cv)
                              have hH3 := (((((((hH2).setCell (p := ⟨wd1.heap.size, 0, none⟩) hH1.size (.int .i64 L.c)).setCell (p := ⟨wd1.heap.size, 1, none⟩) hH1.size (.int .i64 R)).setCell (p := ⟨wd1.heap.size, 2, none⟩) hH1.size (.int .i64 ko)).setCell (p := ⟨wd1.heap.size, 3, none⟩) hH1.size (.slice none 0 0)).setCell (p := ⟨wd1.heap.size, 4, none⟩) hH1.size (.slice none 0 0)).setCell (p := ⟨wd1.heap.size, 5, none⟩) hH1.size (.slice none 0 0)).setCell (p := ⟨wd1.heap.size, 6, none⟩) hH1.size (.slice av ln cv)
                              have HFIN := hide (And.intro KM hH1.size)
                              clear KM
                              go_simp
                              refine hK.out _ _ (fun _ => hH3) ?_
                              clear hK K
                              try simp only [Act.put, List.setIfInBounds_toArray, List.set_cons_zero, List.set_cons_succ]
                              generalize (((((((wd2.setCell ⟨wd1.heap.size, 0, none⟩ (.int .i64 L.c)).setCell ⟨wd1.heap.size, 1, none⟩ (.int .i64 R)).setCell ⟨wd1.heap.size, 2, none⟩ (.int .i64 ko)).setCell ⟨wd1.heap.size, 3, none⟩ (.slice none 0 0)).setCell ⟨wd1.heap.size, 4, none⟩ (.slice none 0 0)).setCell ⟨wd1.heap.size, 5, none⟩ (.slice none 0 0)).setCell ⟨wd1.heap.size, 6, none⟩ (.slice av ln cv)) = wd3 at hH3 HFIN ⊢
                              refine wpAnyL_done (by kernel_rfl) ?_ _
                              go_wp2_with fail
                              go_meet
                              case rel => exact ⟨wd1.heap.size, rfl, HFIN, hH3⟩
                          case _ =>
                            go_simp
                            have hH1 : Below w5.heap.size w5 (wd0.alloc (.cells #[.int .i64 0, .int .i64 0, .int .i64 0, .slice none 0 0, .slice none 0 0, .slice none 0 0, .slice none 0 0] 31 (0, 0))) := hH0.alloc hH0.size _
                            have kn1 := heap_new wd0 (.cells #[.int .i64 0, .int .i64 0, .int .i64 0, .slice none 0 0, .slice none 0 0, .slice none 0 0, .slice none 0 0] 31 (0, 0))
                            have zn1 := hH0.size
                            refine hK.out _ _ (fun _ => hH1) ?_
                            clear hK K
                            try simp only [Act.put, List.setIfInBounds_toArray, List.set_cons_zero, List.set_cons_succ]
                            generalize wd0.alloc (.cells #[.int .i64 0, .int .i64 0, .int .i64 0, .slice none 0 0, .slice none 0 0, .slice none 0 0, .slice none 0 0] 31 (0, 0)) = wd1 at hH1 kn1 ⊢
                            refine wpAnyL_one (i := 6) (o := _) rfl (by kernel_rfl) (by rfl) (fun K hK => ?_)
                            go_simp
                            refine (HCost.out wd1 hH1).mono ?_
                            rintro eq wd2 ⟨rfl, bq2⟩
                            have kn1_2 := (bq2.block _ (lt_of kn1)).trans kn1
                            have hH2 : Below w5.heap.size w5 wd2 := hH1.trans (bq2.mono hH1.size)
                            refine hK.out _ _ (fun _ => hH2) ?_
                            clear hK K
                            try simp only [Act.put, List.setIfInBounds_toArray, List.set_cons_zero, List.set_cons_succ]
                            refine' wpAnyL_take (i := 9) (oi := ⟨some 44, _, _, _, _, _⟩) (v := _) rfl (by kernel_rfl) (by kernel_rfl) (by kernel_rfl) (by kernel_rfl) (fun _ _ _ h => h) hH2 (by rfl) ?hyv ?onw
                            case hyv =>
                              intro wz hSw
                              go_simp
                              try rfl
                            case onw =>
                              try simp only [Act.put, List.setIfInBounds_toArray, List.set_cons_zero, List.set_cons_succ]
                              refine wpAnyL_one (i := 11) (o := _) rfl (by kernel_rfl) (by rfl) (fun K hK => ?_)
                              have st0 := cell_of kn1_2 0
                              have st1 := cell_of kn1_2 1
                              have st2 := cell_of kn1_2 2
                              have st3 := cell_of kn1_2 3
                              have st4 := cell_of kn1_2 4
                              have st5 := cell_of kn1_2 5
                              have st6 := cell_of kn1_2 6
                              have fst0 := free_of kn1_2 0
                              have fst1 := free_of kn1_2 1
                              have fst2 := free_of kn1_2 2
                              have fst3 := free_of kn1_2 3
                              have fst4 := free_of kn1_2 4
                              have fst5 := free_of kn1_2 5
                              have fst6 := free_of kn1_2 6
                              simp at st0 st1 st2 st3 st4 st5 st6
                              have KM := seven_set kn1_2 (.int .i64 L.c) (.int .i64 R) (.int .i64 ko) (.slice none 0 0) (.slice none 0 0) (.slice none 0 0) (.slice av ln cv)
                              have hH3 := (((((((hH2).setCell (p := ⟨wd0.heap.size, 0, none⟩) hH0.size (.int .i64 L.c)).setCell (p := ⟨wd0.heap.size, 1, none⟩) hH0.size (.int .i64 R)).setCell (p := ⟨wd0.heap.size, 2, none⟩) hH0.size (.int .i64 ko)).setCell (p := ⟨wd0.heap.size, 3, none⟩) hH0.size (.slice none 0 0)).setCell (p := ⟨wd0.heap.size, 4, none⟩) hH0.size (.slice none 0 0)).setCell (p := ⟨wd0.heap.size, 5, none⟩) hH0.size (.slice none 0 0)).setCell (p := ⟨wd0.heap.size, 6, none⟩) hH0.size (.slice av ln cv)
                              have HFIN := hide (And.intro KM hH0.size)
                              clear KM
                              go_simp
                              refine hK.out _ _ (fun _ => hH3) ?_
                              clear hK K
                              try simp only [Act.put, List.setIfInBounds_toArray, List.set_cons_zero, List.set_cons_succ]
                              generalize (((((((wd2.setCell ⟨wd0.heap.size, 0, none⟩ (.int .i64 L.c)).setCell ⟨wd0.heap.size, 1, none⟩ (.int .i64 R)).setCell ⟨wd0.heap.size, 2, none⟩ (.int .i64 ko)).setCell ⟨wd0.heap.size, 3, none⟩ (.slice none 0 0)).setCell ⟨wd0.heap.size, 4, none⟩ (.slice none 0 0)).setCell ⟨wd0.heap.size, 5, none⟩ (.slice none 0 0)).setCell ⟨wd0.heap.size, 6, none⟩ (.slice av ln cv)) = wd3 at hH3 HFIN ⊢
                              refine wpAnyL_done (by kernel_rfl) ?_ _
                              go_wp2_with fail
                              go_meet
                              case rel => exact ⟨wd0.heap.size, rfl, HFIN, hH3⟩
        case rest =>
          obtain ⟨mb, rfl, HX, bc⟩ := hcut
          obtain ⟨km, hmb⟩ := HX.out
          have BC := BR.trans (bc.mono BR.size)
          have hmbl := lt_of km
          have kRc := (bc.block _ yRr).trans kRr
          have kIc := (bc.block _ (lt_of HKI.out.1)).trans HKI.out.1
          have kFc := (bc.block _ (lt_of HKI.out.2)).trans HKI.out.2
          have HLc := hide (HLr.out.under bc)
          have HBc := hide (HBr.out.under bc)
          have HKc := hide (HKr.out.under bc)
          have HCc := hide (HCode.out.under bc)
          have zc5 : w.heap.size + 3 ≤ w5.heap.size := by have := lt_of HKI.out.2; omega
          have KM0 := hide km
          have hlens2 := hPl
          obtain ⟨w6, hw6⟩ : ∃ x, x = wc := ⟨_, rfl⟩
          subst hw6
          clear c0 c1 c2 c3 m0 m1 ym kRr yRr HX HCost HLr HBr HKr HCode HKI bc km
          have c0 := cell_of kRc 0
          have c1 := cell_of kRc 1
          have c2 := cell_of kRc 2
          have c3 := cell_of kRc 3
          simp at c0 c1 c2 c3
          have yR := lt_of kRc
          obtain ⟨np, hnp⟩ : ∃ x, x = L.P.length := ⟨_, rfl⟩
          obtain ⟨ng, hng⟩ : ∃ x, x = L.G.length := ⟨_, rfl⟩
          obtain ⟨nb, hnb⟩ : ∃ x, x = B.length := ⟨_, rfl⟩
          have HCLP := hide (fun W (a : Aside [mb] w6.heap.size w6 W) => clone25_any w6.heap.size (HLc.out.P.pastS a (fun i hi => by simp; omega)) hPl a.size)
          have HCLG := hide (fun W (a : Aside [mb] w6.heap.size w6 W) => clone25_any w6.heap.size (HLc.out.G.pastS a (fun i hi => by simp; omega)) hGl a.size)
          have HCLB := hide (fun W (a : Aside [mb] w6.heap.size w6 W) => clone25_any w6.heap.size (HBc.out.pastS a (fun i hi => by simp; omega)) hBl a.size)
          rw [← hnp] at HCLP c1
          rw [← hng] at HCLG c2
          rw [← hnb] at HCLB ⊢
          have HNP := hide hnp
          have HNG := hide hng
          have HNB := hide hnb
          clear hnp hng hnb
          go_upto_region 13 with fail
          refine wp_region_late (fun w' => Aside [mb] w6.heap.size w6 w') (fun _ => false) (by kernel_rfl) ?_
          have hH0 : Aside [mb] w6.heap.size w6 w6.drew := (Aside.refl _).drew
          have KM : w6.drew.heap[mb]? = some (.cells #[.int .i64 L.c, .int .i64 R, .int .i64 ko, .slice none 0 0, .slice none 0 0, .slice none 0 0, .slice av ln cv] 31 (0, 0)) := KM0.out
          generalize w6.drew = wd0 at hH0 KM ⊢
          refine' wpAnyL_take (i := 0) (oi := ⟨some 45, _, _, _, _, _⟩) (v := _) rfl (by kernel_rfl) (by kernel_rfl) (by kernel_rfl) (by kernel_rfl) (fun _ _ _ h => h) hH0 (by rfl) ?hyv ?onw
          case hyv =>
            intro wz hSw
            go_simp
            try rfl
          case onw =>
            try simp only [Act.put, List.setIfInBounds_toArray, List.set_cons_zero, List.set_cons_succ]
            refine' wpAnyL_take (i := 1) (oi := ⟨some 46, _, _, _, _, _⟩) (v := _) rfl (by kernel_rfl) (by kernel_rfl) (by kernel_rfl) (by kernel_rfl) (fun _ _ _ h => h) hH0 (by rfl) ?hyv ?onw
            case hyv =>
              intro wz hSw
              have zc0 := (aside_cell hSw (p := ⟨w.heap.size, 0, none⟩) yR (by simp; omega)).trans c0
              have zc1 := (aside_cell hSw (p := ⟨w.heap.size, 1, none⟩) yR (by simp; omega)).trans c1
              have zc2 := (aside_cell hSw (p := ⟨w.heap.size, 2, none⟩) yR (by simp; omega)).trans c2
              have zc3 := (aside_cell hSw (p := ⟨w.heap.size, 3, none⟩) yR (by simp; omega)).trans c3
              go_simp
              try rfl
            case onw =>
              try simp only [Act.put, List.setIfInBounds_toArray, List.set_cons_zero, List.set_cons_succ]
              refine' wpAnyL_take (i := 3) (oi := ⟨some 48, _, _, _, _, _⟩) (v := _) rfl (by kernel_rfl) (by kernel_rfl) (by kernel_rfl) (by kernel_rfl) (fun _ _ _ h => h) hH0 (by rfl) ?hyv ?onw
              case hyv =>
                intro wz hSw
                go_simp
                try rfl
              case onw =>
                try simp only [Act.put, List.setIfInBounds_toArray, List.set_cons_zero, List.set_cons_succ]
                refine' wpAnyL_take (i := 5) (oi := ⟨some 50, _, _, _, _, _⟩) (v := _) rfl (by kernel_rfl) (by kernel_rfl) (by kernel_rfl) (by kernel_rfl) (fun _ _ _ h => h) hH0 (by rfl) ?hyv ?onw
                case hyv =>
                  intro wz hSw
                  go_simp
                  try rfl
                case onw =>
                  try simp only [Act.put, List.setIfInBounds_toArray, List.set_cons_zero, List.set_cons_succ]
                  refine' wpAnyL_take (i := 6) (oi := ⟨some 51, _, _, _, _, _⟩) (v := _) rfl (by kernel_rfl) (by kernel_rfl) (by kernel_rfl) (by kernel_rfl) (fun _ _ _ h => h) hH0 (by rfl) ?hyv ?onw
                  case hyv =>
                    intro wz hSw
                    have zc0 := (aside_cell hSw (p := ⟨w.heap.size, 0, none⟩) yR (by simp; omega)).trans c0
                    have zc1 := (aside_cell hSw (p := ⟨w.heap.size, 1, none⟩) yR (by simp; omega)).trans c1
                    have zc2 := (aside_cell hSw (p := ⟨w.heap.size, 2, none⟩) yR (by simp; omega)).trans c2
                    have zc3 := (aside_cell hSw (p := ⟨w.heap.size, 3, none⟩) yR (by simp; omega)).trans c3
                    go_simp
                    try rfl
                  case onw =>
                    try simp only [Act.put, List.setIfInBounds_toArray, List.set_cons_zero, List.set_cons_succ]
                    refine wpAnyL_one (i := 2) (o := _) rfl (by kernel_rfl) (by rfl) (fun K hK => ?_)
                    go_simp
                    refine (HCLP.out wd0 hH0).mono ?_
                    rintro eq wd1 ⟨aP, dP, rfl, pP, bq1⟩
                    have hH1 : Aside [mb] w6.heap.size w6 wd1 := hH0.trans (aside bq1) hH0.size
                    have KM := (bq1.block _ (lt_of KM)).trans KM
                    refine hK.out _ _ (fun _ => hH1) ?_
                    clear hK K
                    try simp only [Act.put, List.setIfInBounds_toArray, List.set_cons_zero, List.set_cons_succ]
                    refine' wpAnyL_take (i := 8) (oi := ⟨some 53, _, _, _, _, _⟩) (v := _) rfl (by kernel_rfl) (by kernel_rfl) (by kernel_rfl) (by kernel_rfl) (fun _ _ _ h => h) hH1 (by rfl) ?hyv ?onw
                    case hyv =>
                      intro wz hSw
                      go_simp
                      try rfl
                    case onw =>
                      try simp only [Act.put, List.setIfInBounds_toArray, List.set_cons_zero, List.set_cons_succ]
                      refine wpAnyL_one (i := 4) (o := _) rfl (by kernel_rfl) (by rfl) (fun K hK => ?_)
                      go_simp
                      refine (HCLB.out wd1 hH1).mono ?_
                      rintro eq wd2 ⟨aB, dB, rfl, pB, bq2⟩
                      have hH2 : Aside [mb] w6.heap.size w6 wd2 := hH1.trans (aside bq2) hH1.size
                      have KM := (bq2.block _ (lt_of KM)).trans KM
                      have pP_2 := pP.below bq2
                      refine hK.out _ _ (fun _ => hH2) ?_
                      clear hK K
                      try simp only [Act.put, List.setIfInBounds_toArray, List.set_cons_zero, List.set_cons_succ]
                      refine wpAnyL_one (i := 7) (o := _) rfl (by kernel_rfl) (by rfl) (fun K hK => ?_)
                      go_simp
                      refine (HCLG.out wd2 hH2).mono ?_
                      rintro eq wd3 ⟨aG, dG, rfl, pG, bq3⟩
                      have hH3 : Aside [mb] w6.heap.size w6 wd3 := hH2.trans (aside bq3) hH2.size
                      have KM := (bq3.block _ (lt_of KM)).trans KM
                      have pP_3 := pP_2.below bq3
                      have pB_3 := pB.below bq3
                      refine hK.out _ _ (fun _ => hH3) ?_
                      clear hK K
                      try simp only [Act.put, List.setIfInBounds_toArray, List.set_cons_zero, List.set_cons_succ]
                      refine wpAnyL_one (i := 9) (o := _) rfl (by kernel_rfl) (by rfl) (fun K hK => ?_)
                      have st3 := cell_of KM 3
                      have fr3 := free_of KM 3
                      simp at st3
                      have hH4 := hH3.trans (Aside.setCell (S := [mb]) (B := wd3.heap.size) (p := ⟨mb, 3, none⟩) (by simp) (.slice aP np dP)) hH3.size
                      have KMN := set_in KM 3 (.slice aP np dP)
                      simp at KMN
                      have pP_4 := pP_3.pastS (Aside.setCell (S := [mb]) (B := wd3.heap.size) (p := ⟨mb, 3, none⟩) (by simp) (.slice aP np dP)) (fun i hi => by simp; omega)
                      have pB_4 := pB_3.pastS (Aside.setCell (S := [mb]) (B := wd3.heap.size) (p := ⟨mb, 3, none⟩) (by simp) (.slice aP np dP)) (fun i hi => by simp; omega)
                      have pG_4 := pG.pastS (Aside.setCell (S := [mb]) (B := wd3.heap.size) (p := ⟨mb, 3, none⟩) (by simp) (.slice aP np dP)) (fun i hi => by simp; omega)
                      go_simp
                      refine hK.out _ _ (fun _ => hH4) ?_
                      clear hK K KM st3 fr3
                      try simp only [Act.put, List.setIfInBounds_toArray, List.set_cons_zero, List.set_cons_succ]
                      generalize wd3.setCell ⟨mb, 3, none⟩ (.slice aP np dP) = wd4 at hH4 KMN pP_4 pB_4 pG_4 ⊢
                      have KM := KMN
                      clear KMN
                      refine' wpAnyL_take (i := 10) (oi := ⟨some 54, _, _, _, _, _⟩) (v := _) rfl (by kernel_rfl) (by kernel_rfl) (by kernel_rfl) (by kernel_rfl) (fun _ _ _ h => h) hH4 (by rfl) ?hyv ?onw
                      case hyv =>
                        intro wz hSw
                        go_simp
                        try rfl
                      case onw =>
                        try simp only [Act.put, List.setIfInBounds_toArray, List.set_cons_zero, List.set_cons_succ]
                        refine wpAnyL_one (i := 11) (o := _) rfl (by kernel_rfl) (by rfl) (fun K hK => ?_)
                        have st4 := cell_of KM 4
                        have fr4 := free_of KM 4
                        simp at st4
                        have hH5 := hH4.trans (Aside.setCell (S := [mb]) (B := wd4.heap.size) (p := ⟨mb, 4, none⟩) (by simp) (.slice aB nb dB)) hH4.size
                        have KMN := set_in KM 4 (.slice aB nb dB)
                        simp at KMN
                        have pP_5 := pP_4.pastS (Aside.setCell (S := [mb]) (B := wd4.heap.size) (p := ⟨mb, 4, none⟩) (by simp) (.slice aB nb dB)) (fun i hi => by simp; omega)
                        have pB_5 := pB_4.pastS (Aside.setCell (S := [mb]) (B := wd4.heap.size) (p := ⟨mb, 4, none⟩) (by simp) (.slice aB nb dB)) (fun i hi => by simp; omega)
                        have pG_5 := pG_4.pastS (Aside.setCell (S := [mb]) (B := wd4.heap.size) (p := ⟨mb, 4, none⟩) (by simp) (.slice aB nb dB)) (fun i hi => by simp; omega)
                        go_simp
                        refine hK.out _ _ (fun _ => hH5) ?_
                        clear hK K KM st4 fr4
                        try simp only [Act.put, List.setIfInBounds_toArray, List.set_cons_zero, List.set_cons_succ]
                        generalize wd4.setCell ⟨mb, 4, none⟩ (.slice aB nb dB) = wd5 at hH5 KMN pP_5 pB_5 pG_5 ⊢
                        have KM := KMN
                        clear KMN
                        refine' wpAnyL_take (i := 12) (oi := ⟨some 55, _, _, _, _, _⟩) (v := _) rfl (by kernel_rfl) (by kernel_rfl) (by kernel_rfl) (by kernel_rfl) (fun _ _ _ h => h) hH5 (by rfl) ?hyv ?onw
                        case hyv =>
                          intro wz hSw
                          go_simp
                          try rfl
                        case onw =>
                          try simp only [Act.put, List.setIfInBounds_toArray, List.set_cons_zero, List.set_cons_succ]
                          refine wpAnyL_one (i := 13) (o := _) rfl (by kernel_rfl) (by rfl) (fun K hK => ?_)
                          have st5 := cell_of KM 5
                          have fr5 := free_of KM 5
                          simp at st5
                          have hH6 := hH5.trans (Aside.setCell (S := [mb]) (B := wd5.heap.size) (p := ⟨mb, 5, none⟩) (by simp) (.slice aG ng dG)) hH5.size
                          have KMN := set_in KM 5 (.slice aG ng dG)
                          simp at KMN
                          have pP_6 := pP_5.pastS (Aside.setCell (S := [mb]) (B := wd5.heap.size) (p := ⟨mb, 5, none⟩) (by simp) (.slice aG ng dG)) (fun i hi => by simp; omega)
                          have pB_6 := pB_5.pastS (Aside.setCell (S := [mb]) (B := wd5.heap.size) (p := ⟨mb, 5, none⟩) (by simp) (.slice aG ng dG)) (fun i hi => by simp; omega)
                          have pG_6 := pG_5.pastS (Aside.setCell (S := [mb]) (B := wd5.heap.size) (p := ⟨mb, 5, none⟩) (by simp) (.slice aG ng dG)) (fun i hi => by simp; omega)
                          go_simp
                          refine hK.out _ _ (fun _ => hH6) ?_
                          clear hK K KM st5 fr5
                          try simp only [Act.put, List.setIfInBounds_toArray, List.set_cons_zero, List.set_cons_succ]
                          generalize wd5.setCell ⟨mb, 5, none⟩ (.slice aG ng dG) = wd6 at hH6 KMN pP_6 pB_6 pG_6 ⊢
                          have KM := KMN
                          clear KMN
                          refine wpAnyL_done (by kernel_rfl) ?_ _
                          have hW := wd6
                          have hm : HIm (fun i => w.heap.size + 3 ≤ i) wd6 aP aB aG av dP dB dG cv (Em.img L B C R) := by
                            refine ⟨?_, ?_, ?_, ?_, fun x hx => (HRs.out.2.2.2.1 x hx).b⟩
                            · show HInts _ _ (.slice aP L.P.length dP) L.P
                              rw [← HNP.out]
                              exact pP_6.wide (fun i h _ => by omega)
                            · show HInts _ _ (.slice aB B.length dB) B
                              rw [← HNB.out]
                              exact pB_6.wide (fun i h _ => by omega)
                            · show HInts _ _ (.slice aG L.G.length dG) L.G
                              rw [← HNG.out]
                              exact pG_6.wide (fun i h _ => by omega)
                            · exact HRow.wide (HCc.out.past hH6 (fun i hi => by simp; omega)) (fun i h _ => h.1)
                          have hKx : GlobK wd6 := ⟨Nat.lt_of_lt_of_le HKc.out.1 hH6.size, fun q hq => by
                            have h0 : ∀ o, wd6.cell? ⟨0, o, none⟩ = w6.cell? ⟨0, o, none⟩ := fun o => aside_cell hH6 (p := ⟨0, o, none⟩) HKc.out.1 (by simp; omega)
                            rw [h0, h0, h0]
                            exact HKc.out.2 q hq⟩
                          have hck := check8_any hKx hm
                          have e1 : (Em.img L B C R).P.length = np := HNP.out.symm
                          have e2 : (Em.img L B C R).B.length = nb := HNB.out.symm
                          have e3 : (Em.img L B C R).G.length = ng := HNG.out.symm
                          have e4 : (Em.img L B C R).l.length = ln := HLn.out.symm
                          have e5 : (Em.img L B C R).cost = ko := HKo.out.symm
                          rw [e1, e2, e3, e4, e5] at hck
                          obtain ⟨g1, hg1⟩ : ∃ x, x = (Cd.fault (Em.img L B C R)).1 := ⟨_, rfl⟩
                          obtain ⟨g2, hg2⟩ : ∃ x, x = (Cd.fault (Em.img L B C R)).2 := ⟨_, rfl⟩
                          rw [← hg1, ← hg2] at hck
                          have HCK := hide hck
                          have HG1 := hide hg1
                          have HG2 := hide hg2
                          have HM := hide hm
                          have kIy := (hH6.block _ (lt_of kIc) (by simp; omega)).trans kIc
                          have kFy := (hH6.block _ (lt_of kFc) (by simp; omega)).trans kFc
                          have BY := aside_low BC hH6 (Nat.le_refl _) (by simp; omega)
                          have m0 := cell_of KM 0
                          have m1 := cell_of KM 1
                          have m2 := cell_of KM 2
                          have m3 := cell_of KM 3
                          have m4 := cell_of KM 4
                          have m5 := cell_of KM 5
                          have m6 := cell_of KM 6
                          simp at m0 m1 m2 m3 m4 m5 m6
                          have e6 : (Em.img L B C R).c = L.c := rfl
                          have e7 : (Em.img L B C R).R = R := rfl
                          clear hck hg1 hg2 hm hKx e1 e2 e3 e4 e5 e6 e7 c0 c1 c2 c3 kIc kFc kRc yR HCLP HCLG HCLB HKc HCc pP_6 pB_6 pG_6 hW
                          obtain ⟨w7, hw7⟩ : ∃ x, x = wd6 := ⟨_, rfl⟩
                          subst hw7
                          go_wp2_with fail
                          refine HCK.out.mono ?_
                          rintro e w8 ⟨rfl, b8⟩
                          have KM8 := (b8.block _ (lt_of KM)).trans KM
                          have kI8 := (b8.block _ (lt_of kIy)).trans kIy
                          have kF8 := (b8.block _ (lt_of kFy)).trans kFy
                          have HM8 := hide (HM.out.under b8)
                          have B8 := BY.trans (b8.mono BY.size)
                          clear m0 m1 m2 m3 m4 m5 m6 KM kIy kFy HM BY HCK
                          have b9 : Below w8.heap.size w8 (w8.alloc (.cells #[.int .i64 g1, .int .i64 g2] 33 (0, 0))) := (Below.refl _ _).alloc (Nat.le_refl _) _
                          have kG := heap_new w8 (.cells #[.int .i64 g1, .int .i64 g2] 33 (0, 0))
                          go_upto_region 15 with fail
                          generalize w8.alloc (.cells #[.int .i64 g1, .int .i64 g2] 33 (0, 0)) = w9 at b9 kG ⊢
                          have KM9 := (b9.block _ (lt_of KM8)).trans KM8
                          have kI9 := (b9.block _ (lt_of kI8)).trans kI8
                          have kF9 := (b9.block _ (lt_of kF8)).trans kF8
                          have HM9 := hide (HM8.out.under b9)
                          have B9 := B8.trans (b9.mono B8.size)
                          have zc8 : w.heap.size + 3 ≤ w8.heap.size := by have := lt_of kF8; omega
                          clear KM8 kI8 kF8 HM8 b8 b9 B8
                          have r0 := cell_of kG 0
                          have r1 := cell_of kG 1
                          simp at r0 r1
                          have yG := lt_of kG
                          have hne : w.heap.size + 2 ≠ w.heap.size + 1 := by omega
                          by_cases hg : g1 = 0
                          case neg =>
                            have hgb : (g1 != 0) = true := by simpa using hg
                            have HMk := hide (show Em.make L B = ((g1, g2), Em.noIm) by
                              rw [make_code HF0.out HMKS.out, if_pos (by rw [← HG1.out]; exact hg)]
                              exact congrArg (fun x => (x, Em.noIm)) (Prod.ext HG1.out.symm HG2.out.symm))
                            go_upto_region 16 with fail
                            refine wp_region_late (fun w' => Aside [w.heap.size + 1, w.heap.size + 2] w9.heap.size w9 w') (fun _ => false) (by kernel_rfl) ?_
                            have hH0 : Aside [w.heap.size + 1, w.heap.size + 2] w9.heap.size w9 w9.drew := (Aside.refl _).drew
                            have KI0 : w9.drew.heap[w.heap.size + 1]? = some (.cells #[.int .i64 0, .int .i64 0, .int .i64 0, .slice none 0 0, .slice none 0 0, .slice none 0 0, .slice none 0 0] 31 (0, 0)) := kI9
                            have KF0 : w9.drew.heap[w.heap.size + 2]? = some (.cells #[.int .i64 0, .int .i64 0] 33 (0, 0)) := kF9
                            generalize w9.drew = wd0 at hH0 KI0 KF0 ⊢
                            refine' wpAnyL_take (i := 0) (oi := ⟨some 61, _, _, _, _, _⟩) (v := _) rfl (by kernel_rfl) (by kernel_rfl) (by kernel_rfl) (by kernel_rfl) (fun _ _ _ h => h) hH0 (by rfl) ?hyv ?onw
                            case hyv =>
                              intro wz hSw
                              go_simp
                              try rfl
                            case onw =>
                              try simp only [Act.put, List.setIfInBounds_toArray, List.set_cons_zero, List.set_cons_succ]
                              refine' wpAnyL_take (i := 1) (oi := ⟨some 62, _, _, _, _, _⟩) (v := _) rfl (by kernel_rfl) (by kernel_rfl) (by kernel_rfl) (by kernel_rfl) (fun _ _ _ h => h) hH0 (by rfl) ?hyv ?onw
                              case hyv =>
                                intro wz hSw
                                have zc0 := (aside_cell hSw (p := ⟨w8.heap.size, 0, none⟩) yG (by simp; omega)).trans r0
                                have zc1 := (aside_cell hSw (p := ⟨w8.heap.size, 1, none⟩) yG (by simp; omega)).trans r1
                                go_simp
                                try rfl
                              case onw =>
                                try simp only [Act.put, List.setIfInBounds_toArray, List.set_cons_zero, List.set_cons_succ]
                                refine wpAnyL_one (i := 2) (o := _) rfl (by kernel_rfl) (by rfl) (fun K hK => ?_)
                                have kX := KI0
                                have st0 := cell_of kX 0
                                have st1 := cell_of kX 1
                                have st2 := cell_of kX 2
                                have st3 := cell_of kX 3
                                have st4 := cell_of kX 4
                                have st5 := cell_of kX 5
                                have st6 := cell_of kX 6
                                have fst0 := free_of kX 0
                                have fst1 := free_of kX 1
                                have fst2 := free_of kX 2
                                have fst3 := free_of kX 3
                                have fst4 := free_of kX 4
                                have fst5 := free_of kX 5
                                have fst6 := free_of kX 6
                                simp at st0 st1 st2 st3 st4 st5 st6
                                have KI := seven_set kX (.int .i64 0) (.int .i64 0) (.int .i64 0) (.slice none 0 0) (.slice none 0 0) (.slice none 0 0) (.slice none 0 0)
                                have a0 : Aside [w.heap.size + 1, w.heap.size + 2] wd0.heap.size wd0 (((((((wd0.setCell ⟨w.heap.size + 1, 0, none⟩ (.int .i64 0)).setCell ⟨w.heap.size + 1, 1, none⟩ (.int .i64 0)).setCell ⟨w.heap.size + 1, 2, none⟩ (.int .i64 0)).setCell ⟨w.heap.size + 1, 3, none⟩ (.slice none 0 0)).setCell ⟨w.heap.size + 1, 4, none⟩ (.slice none 0 0)).setCell ⟨w.heap.size + 1, 5, none⟩ (.slice none 0 0)).setCell ⟨w.heap.size + 1, 6, none⟩ (.slice none 0 0)) := aside_seven (by simp) (.int .i64 0) (.int .i64 0) (.int .i64 0) (.slice none 0 0) (.slice none 0 0) (.slice none 0 0) (.slice none 0 0)
                                have a7 : Aside [w.heap.size + 1] wd0.heap.size wd0 (((((((wd0.setCell ⟨w.heap.size + 1, 0, none⟩ (.int .i64 0)).setCell ⟨w.heap.size + 1, 1, none⟩ (.int .i64 0)).setCell ⟨w.heap.size + 1, 2, none⟩ (.int .i64 0)).setCell ⟨w.heap.size + 1, 3, none⟩ (.slice none 0 0)).setCell ⟨w.heap.size + 1, 4, none⟩ (.slice none 0 0)).setCell ⟨w.heap.size + 1, 5, none⟩ (.slice none 0 0)).setCell ⟨w.heap.size + 1, 6, none⟩ (.slice none 0 0)) := aside_seven (by simp) (.int .i64 0) (.int .i64 0) (.int .i64 0) (.slice none 0 0) (.slice none 0 0) (.slice none 0 0) (.slice none 0 0)
                                have KF0 := (a7.block _ (lt_of KF0) (by simp <;> omega)).trans KF0
                                have hH1 : Aside [w.heap.size + 1, w.heap.size + 2] w9.heap.size w9 (((((((wd0.setCell ⟨w.heap.size + 1, 0, none⟩ (.int .i64 0)).setCell ⟨w.heap.size + 1, 1, none⟩ (.int .i64 0)).setCell ⟨w.heap.size + 1, 2, none⟩ (.int .i64 0)).setCell ⟨w.heap.size + 1, 3, none⟩ (.slice none 0 0)).setCell ⟨w.heap.size + 1, 4, none⟩ (.slice none 0 0)).setCell ⟨w.heap.size + 1, 5, none⟩ (.slice none 0 0)).setCell ⟨w.heap.size + 1, 6, none⟩ (.slice none 0 0)) := hH0.trans a0 hH0.size
                                go_simp
                                refine hK.out _ _ (fun _ => hH1) ?_
                                clear hK K a0 a7 kX st0 fst0 st1 fst1 st2 fst2 st3 fst3 st4 fst4 st5 fst5 st6 fst6
                                try simp only [Act.put, List.setIfInBounds_toArray, List.set_cons_zero, List.set_cons_succ]
                                generalize (((((((wd0.setCell ⟨w.heap.size + 1, 0, none⟩ (.int .i64 0)).setCell ⟨w.heap.size + 1, 1, none⟩ (.int .i64 0)).setCell ⟨w.heap.size + 1, 2, none⟩ (.int .i64 0)).setCell ⟨w.heap.size + 1, 3, none⟩ (.slice none 0 0)).setCell ⟨w.heap.size + 1, 4, none⟩ (.slice none 0 0)).setCell ⟨w.heap.size + 1, 5, none⟩ (.slice none 0 0)).setCell ⟨w.heap.size + 1, 6, none⟩ (.slice none 0 0)) = wd1 at hH1 KI KF0 ⊢
                                refine wpAnyL_one (i := 3) (o := _) rfl (by kernel_rfl) (by rfl) (fun K hK => ?_)
                                have kX := KF0
                                have st0 := cell_of kX 0
                                have st1 := cell_of kX 1
                                have fst0 := free_of kX 0
                                have fst1 := free_of kX 1
                                simp at st0 st1
                                have KF := two_set kX (.int .i64 g1) (.int .i64 g2)
                                have a0 : Aside [w.heap.size + 1, w.heap.size + 2] wd1.heap.size wd1 ((wd1.setCell ⟨w.heap.size + 2, 0, none⟩ (.int .i64 g1)).setCell ⟨w.heap.size + 2, 1, none⟩ (.int .i64 g2)) := aside_two (by simp) (.int .i64 g1) (.int .i64 g2)
                                have a7 : Aside [w.heap.size + 2] wd1.heap.size wd1 ((wd1.setCell ⟨w.heap.size + 2, 0, none⟩ (.int .i64 g1)).setCell ⟨w.heap.size + 2, 1, none⟩ (.int .i64 g2)) := aside_two (by simp) (.int .i64 g1) (.int .i64 g2)
                                have KI := (a7.block _ (lt_of KI) (by simp <;> omega)).trans KI
                                have hH2 : Aside [w.heap.size + 1, w.heap.size + 2] w9.heap.size w9 ((wd1.setCell ⟨w.heap.size + 2, 0, none⟩ (.int .i64 g1)).setCell ⟨w.heap.size + 2, 1, none⟩ (.int .i64 g2)) := hH1.trans a0 hH1.size
                                go_simp
                                refine hK.out _ _ (fun _ => hH2) ?_
                                clear hK K a0 a7 kX st0 fst0 st1 fst1
                                try simp only [Act.put, List.setIfInBounds_toArray, List.set_cons_zero, List.set_cons_succ]
                                generalize ((wd1.setCell ⟨w.heap.size + 2, 0, none⟩ (.int .i64 g1)).setCell ⟨w.heap.size + 2, 1, none⟩ (.int .i64 g2)) = wd2 at hH2 KF KI ⊢
                                refine wpAnyL_done (by kernel_rfl) ?_ _
                                have x0 := cell_of KI 0
                                have x1 := cell_of KI 1
                                have x2 := cell_of KI 2
                                have x3 := cell_of KI 3
                                have x4 := cell_of KI 4
                                have x5 := cell_of KI 5
                                have x6 := cell_of KI 6
                                simp at x0 x1 x2 x3 x4 x5 x6
                                have z0 := cell_of KF 0
                                have z1 := cell_of KF 1
                                simp at z0 z1
                                have BX := aside_low B9 hH2 (Nat.le_refl _) (by simp)
                                go_wp2
                                exact bodyPost_ret (v := .tuple #[.agg #[.int .i64 0, .int .i64 0, .int .i64 0, .slice none 0 0, .slice none 0 0, .slice none 0 0, .slice none 0 0], .agg #[.int .i64 g1, .int .i64 g2]]) (by simp [results, Tryd.results8, go_sem, x0, x1, x2, x3, x4, x5, x6, z0, z1]) rfl (MakeP.bad HMk.out BX)
                          case pos =>
                            subst hg
                            have hgb : ((0 : Int) != 0) = false := rfl
                            have HMk := hide (show Em.make L B = ((0, 0), Em.img L B C R) by
                              rw [make_code HF0.out HMKS.out, if_neg (by rw [← HG1.out]; decide)])
                            obtain ⟨KI, KF, A9⟩ := nine_set kI9 kF9 hne (.int .i64 L.c) (.int .i64 R) (.int .i64 ko) (.slice aP np dP) (.slice aB nb dB) (.slice aG ng dG) (.slice av ln cv) (.int .i64 0) (.int .i64 0)
                            have m0 := cell_of KM9 0
                            have m1 := cell_of KM9 1
                            have m2 := cell_of KM9 2
                            have m3 := cell_of KM9 3
                            have m4 := cell_of KM9 4
                            have m5 := cell_of KM9 5
                            have m6 := cell_of KM9 6
                            simp at m0 m1 m2 m3 m4 m5 m6
                            have st0 := cell_of kI9 0
                            have st1 := cell_of kI9 1
                            have st2 := cell_of kI9 2
                            have st3 := cell_of kI9 3
                            have st4 := cell_of kI9 4
                            have st5 := cell_of kI9 5
                            have st6 := cell_of kI9 6
                            have fst0 := free_of kI9 0
                            have fst1 := free_of kI9 1
                            have fst2 := free_of kI9 2
                            have fst3 := free_of kI9 3
                            have fst4 := free_of kI9 4
                            have fst5 := free_of kI9 5
                            have fst6 := free_of kI9 6
                            simp at st0 st1 st2 st3 st4 st5 st6
                            have su0 := cell_of kF9 0
                            have su1 := cell_of kF9 1
                            have fsu0 := free_of kF9 0
                            have fsu1 := free_of kF9 1
                            simp at su0 su1
                            have x0 := cell_of KI 0
                            have x1 := cell_of KI 1
                            have x2 := cell_of KI 2
                            have x3 := cell_of KI 3
                            have x4 := cell_of KI 4
                            have x5 := cell_of KI 5
                            have x6 := cell_of KI 6
                            simp at x0 x1 x2 x3 x4 x5 x6
                            have z0 := cell_of KF 0
                            have z1 := cell_of KF 1
                            simp at z0 z1
                            have BX := aside_low B9 A9 (Nat.le_refl _) (by simp)
                            have HMX := hide ((HM9.out.keep A9.size (fun i hi hl => A9.block i hl (by simp; omega))).wide (ok' := fun i => w.heap.size ≤ i) (fun i h hl => by omega))
                            have E1 : L.P.length = np := HNP.out.symm
                            have E2 : B.length = nb := HNB.out.symm
                            have E3 : L.G.length = ng := HNG.out.symm
                            have E4 : C.length = ln := HLn.out.symm
                            have E5 : Cd.cost 10 11 C = ko := HKo.out.symm
                            have HEND := hide (MakeP.good HMk.out BX HMX.out)
                            have HEND2 := hide (show MakeP (fun i => w.heap.size ≤ i) w L B (.returned (.tuple #[.agg #[.int .i64 L.c, .int .i64 R, .int .i64 ko, .slice aP np dP, .slice aB nb dB, .slice aG ng dG, .slice av ln cv], .agg #[.int .i64 0, .int .i64 0]])) _ by
                              have := HEND.out
                              unfold imgV Em.img at this
                              dsimp only at this
                              rw [E1, E2, E3, E4, E5] at this
                              exact this)
                            clear KI KF A9 HM9 HEND E1 E2 E3 E4 E5 BX HMX
                            go_wp2
                            exact bodyPost_ret (v := .tuple #[.agg #[.int .i64 L.c, .int .i64 R, .int .i64 ko, .slice aP np dP, .slice aB nb dB, .slice aG ng dG, .slice av ln cv], .agg #[.int .i64 0, .int .i64 0]]) (by simp [results, Tryd.results8, go_sem, x0, x1, x2, x3, x4, x5, x6, z0, z1]) rfl HEND2.out
      case pos =>
        obtain ⟨o1, o2, o3, o4⟩ := HC.out
        have hil : i < L.S.length := by have := HNS.out; omega
        have hSr := HL4.out.S.keep abr.size (fun j hj hl => abr.block j hl (by simp; omega))
        obtain ⟨ao', cap', eqs, -, -, hat2⟩ := hSr.at
        injection eqs with q1 q2 q3
        subst q1
        obtain ⟨bb, oo, y, rfl, hb, hsp, hy⟩ := hat2 i hil
        obtain ⟨e0, e1, e2, e3, e4, e5⟩ := hsp
        have hok := HGd.out.S _ (List.getElem_mem hil)
        have hR1 := H.out
        rw [List.drop_eq_getElem_cons hil, Em.mkS] at hR1
        have hl1 := es_len hok
        obtain ⟨lF, -⟩ := pu_len hy.F
        obtain ⟨lE, -⟩ := pu_len hy.E
        generalize (L.S)[i] = s at e0 e1 e2 e3 e4 e5 hy hok hR1 hl1 lF lE
        have hyF := hy.F
        have hyE := hy.E
        rw [lF] at hyF e4
        rw [lE] at hyE e5
        have HAdd := hide (fun W (b : Below wr.heap.size wr W) => addStep22_any (o1.under b) (by omega) s hok (hyF.under b) (hyE.under b) (fun j hj => by omega))
        generalize s.F.length = nF at e4 HAdd
        generalize s.E.length = nE at e5 HAdd
        generalize s.op = op at e0 HAdd
        generalize s.k = kk at e1 HAdd
        generalize s.n = sn at e2 HAdd
        generalize s.tgt = st at e3 HAdd
        have b5 : Below wr.heap.size wr (wr.alloc (.cells #[.int .i64 op, .int .i64 kk, .int .i64 sn, .int .i64 st, .slice y.aF nF y.cF, .slice y.aE nE y.cE] 62 (0, 0))) := (Below.refl _ _).alloc (Nat.le_refl _) _
        have k6 := heap_new wr (.cells #[.int .i64 op, .int .i64 kk, .int .i64 sn, .int .i64 st, .slice y.aF nF y.cF, .slice y.aE nE y.cE] 62 (0, 0))
        have HR1 := hide hR1
        have HO2 := hide o2
        have HO4 := hide (And.intro o3 o4)
        have yr := lt_of kRr
        have hcr := lt_of o1.m
        clear o1 o2 o3 o4 hSr hat2 q2 q3 hy hok hR1 lF lE hyF hyE HC H
        go_upto_region 8 with fail
        generalize wr.alloc (.cells #[.int .i64 op, .int .i64 kk, .int .i64 sn, .int .i64 st, .slice y.aF nF y.cF, .slice y.aE nE y.cE] 62 (0, 0)) = w5 at b5 k6 ⊢
        clear e0 e1 e2 e3 e4 e5
        have p0 := cell_of k6 0
        have p1 := cell_of k6 1
        have p2 := cell_of k6 2
        have p3 := cell_of k6 3
        have p4 := cell_of k6 4
        have p5 := cell_of k6 5
        simp at p0 p1 p2 p3 p4 p5
        go_wp2_with fail
        refine (HAdd.out _ b5).mono ?_
        rintro e w6 h6
        have h7 := h6.pre b5
        have ee := h7.e
        obtain ⟨k7, v7, o7, hk7⟩ := h7.o
        have a7 := h7.a
        have A7 := aside_next abr HO2.out a7
        have K7 := next_own HO2.out hk7 abr.size
        have kRx := (A7.block _ yR (by simp; omega)).trans kR4
        have kIx := (A7.block _ (lt_of kI4) (by simp; omega)).trans kI4
        have kFx := (A7.block _ (lt_of kF4) (by simp; omega)).trans kF4
        have HO7 := hide o7
        have HTM := hide (hasTooMuch23_any o7)
        clear h6 h7 o7 a7 p0 p1 p2 p3 p4 p5 k6 HAdd kRr kIr kFr b5
        subst ee
        obtain ⟨q, hq⟩ : ∃ q, q = (decide (200000 < ((C ++ Em.es s).length : Int)) || decide (40 < Em.rg R (Em.es s))) := ⟨_, rfl⟩
        rw [← hq] at HTM
        have HQ := hide hq
        clear hq
        go_wp2_with fail
        refine HTM.out.mono ?_
        rintro e w7 ⟨rfl, rfl⟩
        cases q
        case true =>
          have HMk := hide (show Em.make L B = ((7, (i : Int)), Em.noIm) from make_many HF0.out (by
            rw [HR1.out, if_pos]
            have := HQ.out
            simpa using this))
          have hne : w.heap.size + 2 ≠ w.heap.size + 1 := by omega
          obtain ⟨KI, KF, A9⟩ := nine_set kIx kFx hne (.int .i64 0) (.int .i64 0) (.int .i64 0) (.slice none 0 0) (.slice none 0 0) (.slice none 0 0) (.slice none 0 0) (.int .i64 7) (.int .i64 (i : Int))
          have st0 := cell_of kIx 0
          have st1 := cell_of kIx 1
          have st2 := cell_of kIx 2
          have st3 := cell_of kIx 3
          have st4 := cell_of kIx 4
          have st5 := cell_of kIx 5
          have st6 := cell_of kIx 6
          have fst0 := free_of kIx 0
          have fst1 := free_of kIx 1
          have fst2 := free_of kIx 2
          have fst3 := free_of kIx 3
          have fst4 := free_of kIx 4
          have fst5 := free_of kIx 5
          have fst6 := free_of kIx 6
          simp at st0 st1 st2 st3 st4 st5 st6
          have su0 := cell_of kFx 0
          have su1 := cell_of kFx 1
          have fsu0 := free_of kFx 0
          have fsu1 := free_of kFx 1
          simp at su0 su1
          have x0 := cell_of KI 0
          have x1 := cell_of KI 1
          have x2 := cell_of KI 2
          have x3 := cell_of KI 3
          have x4 := cell_of KI 4
          have x5 := cell_of KI 5
          have x6 := cell_of KI 6
          simp at x0 x1 x2 x3 x4 x5 x6
          have z0 := cell_of KF 0
          have z1 := cell_of KF 1
          simp at z0 z1
          have BX := aside_low (B4.trans (aside_low (Below.refl _ _) A7 B4.size (by simp; omega))) A9 (Nat.le_refl _) (by simp)
          clear HTM HO7 KI KF A9
          go_wp2
          exact bodyPost_ret (v := .tuple #[.agg #[.int .i64 0, .int .i64 0, .int .i64 0, .slice none 0 0, .slice none 0 0, .slice none 0 0, .slice none 0 0], .agg #[.int .i64 7, .int .i64 (i : Int)]]) (by simp [results, Tryd.results8, go_sem, x0, x1, x2, x3, x4, x5, x6, z0, z1]) rfl (MakeP.bad HMk.out BX)
        case false =>
          have hq := HQ.out.symm
          simp only [Bool.or_eq_false_iff, decide_eq_false_iff_not] at hq
          have HR2 := hide (show Em.mkS L.S 0 [] 3 = Em.mkS (L.S.drop (i + 1)) ((i + 1 : Nat) : Int) (C ++ Em.es s) (Em.rg R (Em.es s)) by
            rw [HR1.out, if_neg (by omega)]
            rfl)
          have HC2 := hide (And.intro HO7.out (And.intro K7 (And.intro (show (C ++ Em.es s).length ≤ 200000 by omega) (show Em.rg R (Em.es s) ≤ 40 by omega))))
          clear hq HQ HTM HO7 kRx kIx kFx
          go_wp2_with fail
          go_roundg (ns - (i + 1))
          case measure => omega
          case rel => exact ⟨i + 1, k7, v7, _, _, by omega, rfl, by go_num, HR2, HC2, A7⟩
end Go.Proofs.YtbiomnnlpafciaaDoor
