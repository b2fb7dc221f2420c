import Derived.Test.YtkgbmgpdehmiiaaDoorY18
import Derived.Test.YtkgbmgpdehmiiaaDoorY17
import Derived.WalkKit
import Derived.WalkSpells
import Derived.IntWalk
import Derived.Deep.Cut
import Derived.Deep.LoopGhost
import Derived.Laws.Cover1
import Derived.Lib.Hide
set_option linter.unusedVariables false
set_option linter.unusedSimpArgs false
set_option maxHeartbeats 64000000
set_option maxRecDepth 100000
namespace Go.Proofs.YtkgbmgpdehmiiaaDoor
open Go.RowKit Go.IntWalk
set_option linter.unusedVariables false
set_option linter.unusedSimpArgs false
theorem blk_row {α : Type} (T : Kind α) {ok : Nat → Prop} {w : World} {b : Nat} {cur : Array Value} {ty : TypeId} {l : List α} (k : w.heap[b]? = some (.cells cur ty (0, 0))) (D : Nat → List Value) (hD : ∀ i, i < l.length → (D i).length = T.k ∧ ∀ j, j < T.k → cur[i * T.k + j]? = (D i)[j]?) (hE : ∀ i (h : i < l.length), T.E ok w (D i) l[i]) (hob : ok b) (hm : l.length ≤ maxLen) : HRow T ok w (.slice (some ⟨b, 0, none⟩) l.length l.length) l :=
  ⟨D, ⟨_, _, rfl, Nat.le_refl _, hm, fun _ => ⟨b, 0, rfl, hob, lt_of k, fun i hi => ⟨(hD i hi).1, fun j hj => by
    have e : 0 + i * T.k + j = i * T.k + j := (by omega)
    rw [e]
    exact (cell_of k _).trans ((hD i hi).2 j hj)⟩⟩⟩, hE⟩
theorem lt3 {i : Nat} (h : i < 3) : i = 0 ∨ i = 1 ∨ i = 2 := by omega
theorem lt4 {i : Nat} (h : i < 4) : i = 0 ∨ i = 1 ∨ i = 2 ∨ i = 3 := by omega
theorem lt6 {i : Nat} (h : i < 6) : i = 0 ∨ i = 1 ∨ i = 2 ∨ i = 3 ∨ i = 4 ∨ i = 5 := by omega
theorem il3 {ok : Nat → Prop} {w : World} {b : Nat} {u1 u2 u3 : Value} {P B G : List Int} (k : w.heap[b]? = some (.cells #[u1, u2, u3] 22 (0, 0))) (hob : ok b) (h1 : HInts ok w u1 P) (h2 : HInts ok w u2 B) (h3 : HInts ok w u3 G) : HRow kIL ok w (.slice (some ⟨b, 0, none⟩) 3 3) [P, B, G] :=
  blk_row kIL (l := [P, B, G]) k (fun i => [([u1, u2, u3] : List Value).getD i u1]) (fun i hi => by
    rcases lt3 (show i < 3 from hi) with rfl | rfl | rfl
    all_goals exact ⟨rfl, fun j hj => by
      have h2 : j = 0 := by have : j < 1 := hj; omega
      subst h2
      rfl⟩) (fun i hi => by
    rcases lt3 (show i < 3 from hi) with rfl | rfl | rfl
    · exact ⟨u1, rfl, h1⟩
    · exact ⟨u2, rfl, h2⟩
    · exact ⟨u3, rfl, h3⟩) hob (show 3 ≤ maxLen by decide)
theorem cost10_any {ok : Nat → Prop} {w : World} {aL : Option Addr} {cL : Nat} {l : List Cd.In} (hl : HIns ok w (.slice aL l.length cL) l) (hlen : l.length ≤ 1000000) : Calls Tryd.prog 39 #[.slice aL l.length cL] w fun e w' => e = .returned (.int .i64 (Cd.cost 10 11 l)) ∧ Below w.heap.size w w' := by
  have b1 : Below w.heap.size w (w.alloc (.cells #[.int .i64 0] 3 (0, 0))) := (Below.refl _ _).alloc (Nat.le_refl _) _
  have k1 := heap_new w (.cells #[.int .i64 0] 3 (0, 0))
  have hl1 : HIns (fun i => i < w.heap.size) (w.alloc (.cells #[.int .i64 0] 3 (0, 0))) (.slice aL l.length cL) l := (hl.wide (ok' := fun i => i < w.heap.size) fun i _ h => h).keep b1.size (fun i _ h => b1.block i h)
  have hc := each20_any hl1 (fun i h e => by subst e; exact Nat.lt_irrefl _ h) hlen k1
  have HC := hide hc
  clear hl hl1 hc hlen
  obtain ⟨C, hC⟩ : ∃ C, C = Cd.cost 10 11 l := ⟨_, rfl⟩
  rw [← hC]
  have HV := hide hC
  clear hC
  generalize hn : l.length = n at HC ⊢
  clear hn
  go_enter Tryd.func39, Tryd.ntmps39
  go_upto_region 2 with fail
  generalize w.alloc (.cells #[.int .i64 0] 3 (0, 0)) = w1 at b1 k1 HC ⊢
  go_wp2_with fail
  refine HC.out.mono ?_
  intro e w2 hp
  obtain ⟨q, x, rfl, k2, a2, ht, hf⟩ := hp.out
  have B2 : Below w.heap.size w w2 := b1.trans ((a2.mono b1.size).below (by intro k hk; simp at hk; omega))
  have s0 := cell_of k2 0
  simp at s0
  have HT := hide ht
  have HF := hide hf
  clear ht hf HC hp
  cases q
  case true =>
    have HZ := hide (show C = x by rw [HV.out, Cd.cost, HT.out rfl]; rfl)
    clear HV HT HF
    go_wp2
    go_ret
    exact ⟨by rw [HZ.out]; rfl, B2⟩
  case false =>
    have HZ := hide (show C = 0 by rw [HV.out, Cd.cost, HF.out rfl]; rfl)
    clear HV HT HF
    go_wp2
    go_ret
    exact ⟨by rw [HZ.out]; rfl, B2⟩
set_option maxHeartbeats 32000000 in
theorem check8_any {ok : Nat → Prop} {w : World} {aP aB aG aL : Option Addr} {cP cB cG cL : Nat} {m : Cd.Im} (hG : GlobK w) (hm : HIm ok w aP aB aG aL cP cB cG cL m) : Calls Tryd.prog 20 #[.agg #[.int .i64 m.c, .int .i64 m.R, .int .i64 m.cost, .slice aP m.P.length cP, .slice aB m.B.length cB, .slice aG m.G.length cG, .slice aL m.l.length cL]] w fun e w' => e = .returned (.agg #[.int .i64 (Cd.fault m).1, .int .i64 (Cd.fault m).2]) ∧ Below w.heap.size w w' := by
  obtain ⟨c, R, kc, P, B, G, l⟩ := m
  obtain ⟨hP, hB, hGg, hL, hW⟩ := hm
  dsimp only at hP hB hGg hL hW ⊢
  unfold Cd.fault
  dsimp only
  have h15 := fun (W : World) (hc : 1 ≤ c ∧ c ≤ 6000) (b : Below w.heap.size w W) => (show Calls Tryd.prog 36 #[.agg #[.int .i64 c, .int .i64 R], .slice (some ⟨W.heap.size, 0, none⟩) 3 3] (W.alloc (.cells #[.slice aP P.length cP, .slice aB B.length cB, .slice aG G.length cG] 22 (0, 0))) fun e w' => e = .returned (.bool ([P, B, G].any fun z => z.any fun x => !Cd.has c x 1)) ∧ Below W.heap.size W w' by
    have b2 : Below W.heap.size W (W.alloc (.cells #[.slice aP P.length cP, .slice aB B.length cB, .slice aG G.length cG] 22 (0, 0))) := (Below.refl _ _).alloc (Nat.le_refl _) _
    have hr := il3 (ok := fun _ => True) (heap_new W (.cells #[.slice aP P.length cP, .slice aB B.length cB, .slice aG G.length cG] 22 (0, 0))) trivial (((hP.under b).under b2).wide fun _ _ _ => trivial) (((hB.under b).under b2).wide fun _ _ _ => trivial) (((hGg.under b).under b2).wide fun _ _ _ => trivial)
    exact (lacksCell15_any c R (by unfold I64; omega) hr).mono fun e w' ⟨h1, h2⟩ => ⟨h1, b2.trans (h2.mono b2.size)⟩)
  have h16 := fun (W : World) (hc : 1 ≤ c ∧ c ≤ 6000) (b : Below w.heap.size w W) => (show Calls Tryd.prog 37 #[.slice aL l.length cL, .func (.func 38) #[.agg #[.int .i64 c, .int .i64 R]] #[]] W fun e w' => e = .returned (.int .i64 (Cd.idx (Cd.bars c R) 0 l)) ∧ Below W.heap.size W w' from
    indexFunc16_any (p := Cd.bars c R) (bs := #[.agg #[.int .i64 c, .int .i64 R]]) (cs := #[]) ceg17 (hL.under b) (fun s hs V bV => by
      have h := bars17_any c R s V ((hG.under b).under bV) (hW s hs) hc
      simpa using h))
  have h10 := fun (W : World) (hlen : l.length ≤ 1000000) (b : Below w.heap.size w W) => cost10_any (hL.under b) hlen
  generalize ([P, B, G].any fun z => z.any fun x => !Cd.has c x 1) = q15 at h15 ⊢
  generalize Cd.idx (Cd.bars c R) 0 l = ix at h16 ⊢
  generalize Cd.cost 10 11 l = C at h10 ⊢
  clear hP hB hGg hL hW hG
  generalize P.length = nP at h15 ⊢
  generalize B.length = nB at h15 ⊢
  generalize G.length = nG at h15 ⊢
  generalize l.length = nL at h16 h10 ⊢
  have H13 := hide (fun W => may13_any c R W)
  have H14 := hide (fun W => many14_any c R kc (aP := aP) (aB := aB) (aG := aG) (aL := aL) (nP := nP) (nB := nB) (nG := nG) (nL := nL) (cP := cP) (cB := cB) (cG := cG) (cL := cL) W)
  have H15 := hide h15
  have H16 := hide h16
  have H10 := hide h10
  clear h15 h16 h10
  obtain ⟨Q, hQ⟩ : ∃ Q : Int × Int, Q = (if c < 1 ∨ 6000 < c ∨ R < 1 ∨ 40 < R then (13, -1) else if 6000 < nP ∨ 6000 < nB ∨ 120000 < nG ∨ 200000 < nL then (7, -1) else if q15 = true then (16, -1) else if 0 ≤ ix then (4, ix) else if kc ≠ C ∨ (C = 0 ∧ 0 < nL) then (18, -1) else (0, 0)) := ⟨_, rfl⟩
  rw [← hQ]
  have HR := hide hQ
  clear hQ
  have b1 : Below w.heap.size w (((w.alloc (.cells #[.int .i64 c, .int .i64 R, .int .i64 kc, .slice aP nP cP, .slice aB nB cB, .slice aG nG cG, .slice aL nL cL] 25 (0, 0))).alloc (.cells #[.int .i64 0, .int .i64 0] 34 (0, 0))).alloc (.cells #[.int .i64 c, .int .i64 R] 72 (0, 0))) := (((Below.refl _ _).alloc (Nat.le_refl _) _).alloc (by simp) _).alloc (by simp; omega) _
  have kM : ((((w.alloc (.cells #[.int .i64 c, .int .i64 R, .int .i64 kc, .slice aP nP cP, .slice aB nB cB, .slice aG nG cG, .slice aL nL cL] 25 (0, 0))).alloc (.cells #[.int .i64 0, .int .i64 0] 34 (0, 0))).alloc (.cells #[.int .i64 c, .int .i64 R] 72 (0, 0)))).heap[w.heap.size]? = some (.cells #[.int .i64 c, .int .i64 R, .int .i64 kc, .slice aP nP cP, .slice aB nB cB, .slice aG nG cG, .slice aL nL cL] 25 (0, 0)) := (Below.heap_alloc _ _ _ (by simp; omega)).trans ((Below.heap_alloc _ _ _ (by simp)).trans (heap_new w _))
  have kF : ((((w.alloc (.cells #[.int .i64 c, .int .i64 R, .int .i64 kc, .slice aP nP cP, .slice aB nB cB, .slice aG nG cG, .slice aL nL cL] 25 (0, 0))).alloc (.cells #[.int .i64 0, .int .i64 0] 34 (0, 0))).alloc (.cells #[.int .i64 c, .int .i64 R] 72 (0, 0)))).heap[w.heap.size + 1]? = some (.cells #[.int .i64 0, .int .i64 0] 34 (0, 0)) := (Below.heap_alloc _ _ _ (by simp)).trans (by
    have := heap_new (w.alloc (.cells #[.int .i64 c, .int .i64 R, .int .i64 kc, .slice aP nP cP, .slice aB nB cB, .slice aG nG cG, .slice aL nL cL] 25 (0, 0))) (.cells #[.int .i64 0, .int .i64 0] 34 (0, 0))
    simpa using this)
  have kR : ((((w.alloc (.cells #[.int .i64 c, .int .i64 R, .int .i64 kc, .slice aP nP cP, .slice aB nB cB, .slice aG nG cG, .slice aL nL cL] 25 (0, 0))).alloc (.cells #[.int .i64 0, .int .i64 0] 34 (0, 0))).alloc (.cells #[.int .i64 c, .int .i64 R] 72 (0, 0)))).heap[w.heap.size + 1 + 1]? = some (.cells #[.int .i64 c, .int .i64 R] 72 (0, 0)) := by
    have := heap_new ((w.alloc (.cells #[.int .i64 c, .int .i64 R, .int .i64 kc, .slice aP nP cP, .slice aB nB cB, .slice aG nG cG, .slice aL nL cL] 25 (0, 0))).alloc (.cells #[.int .i64 0, .int .i64 0] 34 (0, 0))) (.cells #[.int .i64 c, .int .i64 R] 72 (0, 0))
    simpa using this
  go_enter Tryd.func20, Tryd.ntmps20
  go_upto_region 2 with fail
  generalize (((w.alloc (.cells #[.int .i64 c, .int .i64 R, .int .i64 kc, .slice aP nP cP, .slice aB nB cB, .slice aG nG cG, .slice aL nL cL] 25 (0, 0))).alloc (.cells #[.int .i64 0, .int .i64 0] 34 (0, 0))).alloc (.cells #[.int .i64 c, .int .i64 R] 72 (0, 0))) = w1 at b1 kM kF kR ⊢
  have s0 := cell_of kM 0
  have s1 := cell_of kM 1
  have s2 := cell_of kM 2
  have s3 := cell_of kM 3
  have s4 := cell_of kM 4
  have s5 := cell_of kM 5
  have s6 := cell_of kM 6
  simp at s0 s1 s2 s3 s4 s5 s6
  have p0 := cell_of kR 0
  have p1 := cell_of kR 1
  simp at p0 p1
  go_wp2_with fail
  refine (H13.out w1).mono ?_
  rintro e w2 ⟨rfl, b2⟩
  have B2 := b1.trans (b2.mono b1.size)
  have kM2 := (b2.block _ (lt_of kM)).trans kM
  have kF2 := (b2.block _ (lt_of kF)).trans kF
  have kR2 := (b2.block _ (lt_of kR)).trans kR
  clear s0 s1 s2 s3 s4 s5 s6
  clear p0 p1 kM kF kR
  have s0 := cell_of kM2 0
  have s1 := cell_of kM2 1
  have s2 := cell_of kM2 2
  have s3 := cell_of kM2 3
  have s4 := cell_of kM2 4
  have s5 := cell_of kM2 5
  have s6 := cell_of kM2 6
  simp at s0 s1 s2 s3 s4 s5 s6
  have p0 := cell_of kR2 0
  have p1 := cell_of kR2 1
  simp at p0 p1
  by_cases h1 : 1 ≤ c ∧ c ≤ 6000 ∧ 1 ≤ R ∧ R ≤ 40
  case neg =>
    rw [decide_eq_false h1]
    have HZ := hide (show Q = (13, (-1)) by rw [HR.out]; rw [if_pos (by omega)])
    clear HR
    have st0 := cell_of kF2 0
    have st1 := cell_of kF2 1
    have fr0 := free_of kF2 0
    have fr1 := free_of kF2 1
    simp at st0 st1
    have KR := set_in (set_in kF2 0 (.int .i64 13)) 1 (.int .i64 (-1))
    have r0 := cell_of KR 0
    have r1 := cell_of KR 1
    simp at r0 r1
    have BR := (B2.setCell (p := ⟨w.heap.size + 1, 0, none⟩) (by simp) (.int .i64 13)).setCell (p := ⟨w.heap.size + 1, 1, none⟩) (by simp) (.int .i64 (-1))
    clear KR
    go_wp2
    exact bodyPost_ret (v := .agg #[.int .i64 13, .int .i64 (-1)]) (by simp [results, Tryd.results20, go_sem, r0, r1]) rfl ⟨by rw [HZ.out], BR⟩
  rw [decide_eq_true h1]
  have HCC := hide (And.intro h1.1 h1.2.1)
  have HR1 := hide (HR.out.trans (if_neg (by omega)))
  clear HR h1 H13
  have HR := HR1
  clear HR1
  go_wp2_with fail
  refine (H14.out w2).mono ?_
  rintro e w3 ⟨rfl, b3⟩
  have B3 := B2.trans (b3.mono B2.size)
  have kM3 := (b3.block _ (lt_of kM2)).trans kM2
  have kF3 := (b3.block _ (lt_of kF2)).trans kF2
  have kR3 := (b3.block _ (lt_of kR2)).trans kR2
  clear s0 s1 s2 s3 s4 s5 s6
  clear p0 p1 kM2 kF2 kR2
  have s0 := cell_of kM3 0
  have s1 := cell_of kM3 1
  have s2 := cell_of kM3 2
  have s3 := cell_of kM3 3
  have s4 := cell_of kM3 4
  have s5 := cell_of kM3 5
  have s6 := cell_of kM3 6
  simp at s0 s1 s2 s3 s4 s5 s6
  have p0 := cell_of kR3 0
  have p1 := cell_of kR3 1
  simp at p0 p1
  by_cases g0 : 6000 < (nP : Int)
  case pos =>
    simp only [decide_eq_true g0, Bool.or_true, Bool.true_or, Bool.false_or]
    have HZ := hide (show Q = (7, (-1)) by rw [HR.out]; rw [if_pos (by omega)])
    clear HR
    have st0 := cell_of kF3 0
    have st1 := cell_of kF3 1
    have fr0 := free_of kF3 0
    have fr1 := free_of kF3 1
    simp at st0 st1
    have KR := set_in (set_in kF3 0 (.int .i64 7)) 1 (.int .i64 (-1))
    have r0 := cell_of KR 0
    have r1 := cell_of KR 1
    simp at r0 r1
    have BR := (B3.setCell (p := ⟨w.heap.size + 1, 0, none⟩) (by simp) (.int .i64 7)).setCell (p := ⟨w.heap.size + 1, 1, none⟩) (by simp) (.int .i64 (-1))
    clear KR
    go_wp2
    exact bodyPost_ret (v := .agg #[.int .i64 7, .int .i64 (-1)]) (by simp [results, Tryd.results20, go_sem, r0, r1]) rfl ⟨by rw [HZ.out], BR⟩
  by_cases g1 : 6000 < (nB : Int)
  case pos =>
    simp only [decide_eq_false g0, decide_eq_true g1, Bool.or_true, Bool.true_or, Bool.false_or]
    have HZ := hide (show Q = (7, (-1)) by rw [HR.out]; rw [if_pos (by omega)])
    clear HR
    have st0 := cell_of kF3 0
    have st1 := cell_of kF3 1
    have fr0 := free_of kF3 0
    have fr1 := free_of kF3 1
    simp at st0 st1
    have KR := set_in (set_in kF3 0 (.int .i64 7)) 1 (.int .i64 (-1))
    have r0 := cell_of KR 0
    have r1 := cell_of KR 1
    simp at r0 r1
    have BR := (B3.setCell (p := ⟨w.heap.size + 1, 0, none⟩) (by simp) (.int .i64 7)).setCell (p := ⟨w.heap.size + 1, 1, none⟩) (by simp) (.int .i64 (-1))
    clear KR
    go_wp2
    exact bodyPost_ret (v := .agg #[.int .i64 7, .int .i64 (-1)]) (by simp [results, Tryd.results20, go_sem, r0, r1]) rfl ⟨by rw [HZ.out], BR⟩
  by_cases g2 : 120000 < (nG : Int)
  case pos =>
    simp only [decide_eq_false g0, decide_eq_false g1, decide_eq_true g2, Bool.or_true, Bool.true_or, Bool.false_or]
    have HZ := hide (show Q = (7, (-1)) by rw [HR.out]; rw [if_pos (by omega)])
    clear HR
    have st0 := cell_of kF3 0
    have st1 := cell_of kF3 1
    have fr0 := free_of kF3 0
    have fr1 := free_of kF3 1
    simp at st0 st1
    have KR := set_in (set_in kF3 0 (.int .i64 7)) 1 (.int .i64 (-1))
    have r0 := cell_of KR 0
    have r1 := cell_of KR 1
    simp at r0 r1
    have BR := (B3.setCell (p := ⟨w.heap.size + 1, 0, none⟩) (by simp) (.int .i64 7)).setCell (p := ⟨w.heap.size + 1, 1, none⟩) (by simp) (.int .i64 (-1))
    clear KR
    go_wp2
    exact bodyPost_ret (v := .agg #[.int .i64 7, .int .i64 (-1)]) (by simp [results, Tryd.results20, go_sem, r0, r1]) rfl ⟨by rw [HZ.out], BR⟩
  by_cases g3 : 200000 < (nL : Int)
  case pos =>
    simp only [decide_eq_false g0, decide_eq_false g1, decide_eq_false g2, decide_eq_true g3, Bool.or_true, Bool.true_or, Bool.false_or]
    have HZ := hide (show Q = (7, (-1)) by rw [HR.out]; rw [if_pos (by omega)])
    clear HR
    have st0 := cell_of kF3 0
    have st1 := cell_of kF3 1
    have fr0 := free_of kF3 0
    have fr1 := free_of kF3 1
    simp at st0 st1
    have KR := set_in (set_in kF3 0 (.int .i64 7)) 1 (.int .i64 (-1))
    have r0 := cell_of KR 0
    have r1 := cell_of KR 1
    simp at r0 r1
    have BR := (B3.setCell (p := ⟨w.heap.size + 1, 0, none⟩) (by simp) (.int .i64 7)).setCell (p := ⟨w.heap.size + 1, 1, none⟩) (by simp) (.int .i64 (-1))
    clear KR
    go_wp2
    exact bodyPost_ret (v := .agg #[.int .i64 7, .int .i64 (-1)]) (by simp [results, Tryd.results20, go_sem, r0, r1]) rfl ⟨by rw [HZ.out], BR⟩
  simp only [decide_eq_false g0, decide_eq_false g1, decide_eq_false g2, decide_eq_false g3, Bool.or_false]
  have HLN := hide (show nL ≤ 1000000 by omega)
  have HR1 := hide (HR.out.trans (if_neg (by omega)))
  clear HR g0 g1 g2 g3 H14
  have HR := HR1
  clear HR1
  go_wp2_with fail
  refine (H15.out w3 HCC.out B3).mono ?_
  rintro e w4 ⟨rfl, b4⟩
  have B4 := B3.trans (b4.mono B3.size)
  have kM4 := (b4.block _ (lt_of kM3)).trans kM3
  have kF4 := (b4.block _ (lt_of kF3)).trans kF3
  have kR4 := (b4.block _ (lt_of kR3)).trans kR3
  clear s0 s1 s2 s3 s4 s5 s6
  clear p0 p1 kM3 kF3 kR3
  have s0 := cell_of kM4 0
  have s1 := cell_of kM4 1
  have s2 := cell_of kM4 2
  have s3 := cell_of kM4 3
  have s4 := cell_of kM4 4
  have s5 := cell_of kM4 5
  have s6 := cell_of kM4 6
  simp at s0 s1 s2 s3 s4 s5 s6
  have p0 := cell_of kR4 0
  have p1 := cell_of kR4 1
  simp at p0 p1
  clear H15
  cases q15
  case true =>
    have HZ := hide (show Q = (16, (-1)) by rw [HR.out]; rw [if_pos rfl])
    clear HR
    have st0 := cell_of kF4 0
    have st1 := cell_of kF4 1
    have fr0 := free_of kF4 0
    have fr1 := free_of kF4 1
    simp at st0 st1
    have KR := set_in (set_in kF4 0 (.int .i64 16)) 1 (.int .i64 (-1))
    have r0 := cell_of KR 0
    have r1 := cell_of KR 1
    simp at r0 r1
    have BR := (B4.setCell (p := ⟨w.heap.size + 1, 0, none⟩) (by simp) (.int .i64 16)).setCell (p := ⟨w.heap.size + 1, 1, none⟩) (by simp) (.int .i64 (-1))
    clear KR
    go_wp2
    exact bodyPost_ret (v := .agg #[.int .i64 16, .int .i64 (-1)]) (by simp [results, Tryd.results20, go_sem, r0, r1]) rfl ⟨by rw [HZ.out], BR⟩
  case false =>
    have HR1 := hide (HR.out.trans (if_neg (by decide)))
    clear HR
    have HR := HR1
    clear HR1
    go_wp2_with fail
    refine (H16.out w4 HCC.out B4).mono ?_
    rintro e w5 ⟨rfl, b5⟩
    have B5 := B4.trans (b5.mono B4.size)
    have kM5 := (b5.block _ (lt_of kM4)).trans kM4
    have kF5 := (b5.block _ (lt_of kF4)).trans kF4
    have kR5 := (b5.block _ (lt_of kR4)).trans kR4
    clear s0 s1 s2 s3 s4 s5 s6
    clear p0 p1 kM4 kF4 kR4
    have s0 := cell_of kM5 0
    have s1 := cell_of kM5 1
    have s2 := cell_of kM5 2
    have s3 := cell_of kM5 3
    have s4 := cell_of kM5 4
    have s5 := cell_of kM5 5
    have s6 := cell_of kM5 6
    simp at s0 s1 s2 s3 s4 s5 s6
    have p0 := cell_of kR5 0
    have p1 := cell_of kR5 1
    simp at p0 p1
    clear H16
    by_cases hx : 0 ≤ ix
    case pos =>
      have HZ := hide (show Q = (4, ix) by rw [HR.out]; rw [if_pos hx])
      clear HR
      have st0 := cell_of kF5 0
      have st1 := cell_of kF5 1
      have fr0 := free_of kF5 0
      have fr1 := free_of kF5 1
      simp at st0 st1
      have KR := set_in (set_in kF5 0 (.int .i64 4)) 1 (.int .i64 ix)
      have r0 := cell_of KR 0
      have r1 := cell_of KR 1
      simp at r0 r1
      have BR := (B5.setCell (p := ⟨w.heap.size + 1, 0, none⟩) (by simp) (.int .i64 4)).setCell (p := ⟨w.heap.size + 1, 1, none⟩) (by simp) (.int .i64 ix)
      clear KR
      go_wp2
      exact bodyPost_ret (v := .agg #[.int .i64 4, .int .i64 ix]) (by simp [results, Tryd.results20, go_sem, r0, r1]) rfl ⟨by rw [HZ.out], BR⟩
    have HR1 := hide (HR.out.trans (if_neg hx))
    clear HR
    have HR := HR1
    clear HR1
    go_wp2_with fail
    refine (H10.out w5 HLN.out B5).mono ?_
    rintro e w6 ⟨rfl, b6⟩
    have B6 := B5.trans (b6.mono B5.size)
    have kM6 := (b6.block _ (lt_of kM5)).trans kM5
    have kF6 := (b6.block _ (lt_of kF5)).trans kF5
    have kR6 := (b6.block _ (lt_of kR5)).trans kR5
    clear s0 s1 s2 s3 s4 s5 s6
    clear p0 p1 kM5 kF5 kR5
    have s0 := cell_of kM6 0
    have s1 := cell_of kM6 1
    have s2 := cell_of kM6 2
    have s3 := cell_of kM6 3
    have s4 := cell_of kM6 4
    have s5 := cell_of kM6 5
    have s6 := cell_of kM6 6
    simp at s0 s1 s2 s3 s4 s5 s6
    have p0 := cell_of kR6 0
    have p1 := cell_of kR6 1
    simp at p0 p1
    clear H10 hx
    by_cases hk : C = kc
    case neg =>
      have hk2 : (C != kc) = true := by simpa using hk
      have HZ := hide (show Q = (18, (-1)) by rw [HR.out]; rw [if_pos (.inl fun e => hk e.symm)])
      clear HR
      have st0 := cell_of kF6 0
      have st1 := cell_of kF6 1
      have fr0 := free_of kF6 0
      have fr1 := free_of kF6 1
      simp at st0 st1
      have KR := set_in (set_in kF6 0 (.int .i64 18)) 1 (.int .i64 (-1))
      have r0 := cell_of KR 0
      have r1 := cell_of KR 1
      simp at r0 r1
      have BR := (B6.setCell (p := ⟨w.heap.size + 1, 0, none⟩) (by simp) (.int .i64 18)).setCell (p := ⟨w.heap.size + 1, 1, none⟩) (by simp) (.int .i64 (-1))
      clear KR
      go_wp2
      exact bodyPost_ret (v := .agg #[.int .i64 18, .int .i64 (-1)]) (by simp [results, Tryd.results20, go_sem, r0, r1]) rfl ⟨by rw [HZ.out], BR⟩
    case pos =>
      subst hk
      by_cases h0 : C = 0
      case pos =>
        subst h0
        by_cases hn : 0 < (nL : Int)
        case pos =>
          have HZ := hide (show Q = (18, (-1)) by rw [HR.out]; rw [if_pos (.inr ⟨rfl, by omega⟩)])
          clear HR
          have st0 := cell_of kF6 0
          have st1 := cell_of kF6 1
          have fr0 := free_of kF6 0
          have fr1 := free_of kF6 1
          simp at st0 st1
          have KR := set_in (set_in kF6 0 (.int .i64 18)) 1 (.int .i64 (-1))
          have r0 := cell_of KR 0
          have r1 := cell_of KR 1
          simp at r0 r1
          have BR := (B6.setCell (p := ⟨w.heap.size + 1, 0, none⟩) (by simp) (.int .i64 18)).setCell (p := ⟨w.heap.size + 1, 1, none⟩) (by simp) (.int .i64 (-1))
          clear KR
          go_wp2
          exact bodyPost_ret (v := .agg #[.int .i64 18, .int .i64 (-1)]) (by simp [results, Tryd.results20, go_sem, r0, r1]) rfl ⟨by rw [HZ.out], BR⟩
        case neg =>
          have HZ := hide (show Q = (0, 0) by rw [HR.out]; rw [if_neg (by rintro (h | ⟨_, h⟩); exact h rfl; omega)])
          clear HR
          have st0 := cell_of kF6 0
          have st1 := cell_of kF6 1
          have fr0 := free_of kF6 0
          have fr1 := free_of kF6 1
          simp at st0 st1
          have KR := set_in (set_in kF6 0 (.int .i64 0)) 1 (.int .i64 0)
          have r0 := cell_of KR 0
          have r1 := cell_of KR 1
          simp at r0 r1
          have BR := (B6.setCell (p := ⟨w.heap.size + 1, 0, none⟩) (by simp) (.int .i64 0)).setCell (p := ⟨w.heap.size + 1, 1, none⟩) (by simp) (.int .i64 0)
          clear KR
          go_wp2
          exact bodyPost_ret (v := .agg #[.int .i64 0, .int .i64 0]) (by simp [results, Tryd.results20, go_sem, r0, r1]) rfl ⟨by rw [HZ.out], BR⟩
      case neg =>
        have h2 : (C == 0) = false := by simpa using h0
        have HZ := hide (show Q = (0, 0) by rw [HR.out]; rw [if_neg (by rintro (h | ⟨h, _⟩); exact h rfl; exact h0 h)])
        clear HR
        have st0 := cell_of kF6 0
        have st1 := cell_of kF6 1
        have fr0 := free_of kF6 0
        have fr1 := free_of kF6 1
        simp at st0 st1
        have KR := set_in (set_in kF6 0 (.int .i64 0)) 1 (.int .i64 0)
        have r0 := cell_of KR 0
        have r1 := cell_of KR 1
        simp at r0 r1
        have BR := (B6.setCell (p := ⟨w.heap.size + 1, 0, none⟩) (by simp) (.int .i64 0)).setCell (p := ⟨w.heap.size + 1, 1, none⟩) (by simp) (.int .i64 0)
        clear KR
        go_wp2
        exact bodyPost_ret (v := .agg #[.int .i64 0, .int .i64 0]) (by simp [results, Tryd.results20, go_sem, r0, r1]) rfl ⟨by rw [HZ.out], BR⟩
end Go.Proofs.YtkgbmgpdehmiiaaDoor
