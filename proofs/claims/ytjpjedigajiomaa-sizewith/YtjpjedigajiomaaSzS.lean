/-
  DERIVED. THE WALKS of slices.Clone, slices.SortFunc at terms with their closure.
-/
import Derived.Test.YtjpjedigajiomaaSzO
import Derived.Shelf.SlicesE.Clone
import Derived.Ground.SlgnProg
namespace Go.Proofs.Ytjpjedigajiomaa
open Go.Shelf Go.RowKit Go.Lib Go.IntWalk Go.Sort
set_option linter.unusedVariables false
set_option linter.unusedSimpArgs false
set_option maxRecDepth 100000

shelf_lay_g SlLaysF0.n14 Slsf 14 at Try 39 as lay39
shelf_lay Lays.n125 Nm 125 at Try as lay40
shelf_lay_g SlLaysE0.n41 Slgn 41 at Try 30 as lay30
shelf_lay Lays.n106 Nm 106 at Try as lay33

/-- how two terms compare -/
def cmpT (x y : Tm) : Int := Lib.compareBytes x.2.data.toList y.2.data.toList

set_option maxHeartbeats 1000000 in
theorem closure32 (x y : Tm) (W : World) : Calls Try.prog 32 #[.agg #[.int .i64 x.1, .string x.2], .agg #[.int .i64 y.1, .string y.2]] W fun e w' => e = .returned (.int .i64 (cmpT x y)) ∧ ∃ q os', w' = grow (W.drewN q) os' := by
  have hcon := fun W' => Any.strings_Compare lay33 x.2 y.2 W'
  change ∀ W', Calls Try.prog 33 _ _ _ at hcon
  unfold cmpT
  generalize Lib.compareBytes x.2.data.toList y.2.data.toList = r at hcon ⊢
  go_enter Try.func32, Try.ntmps32
  go_wp2_with (go_at_call 33; refine (hcon _).mono ?_; rintro e w' ⟨rfl, rfl⟩)
  go_ret
  exact ⟨rfl, 0, _, by rw [alloc_eq_grow, alloc_eq_grow, grow_grow]; rfl⟩

theorem ltT (x y : Tm) : ltOf cmpT x y = decide (Lib.compareBytes x.2.data.toList y.2.data.toList < 0) := rfl
theorem swoT : SWO (ltOf cmpT) where
  irrefl x := by rw [ltT, cmp_self]; simp
  trans x y z h1 h2 := by
    rw [ltT, decide_eq_true_eq] at *
    exact cmp_trans _ _ _ h1 h2
  ntrans x y z h1 h2 := by
    rw [ltT, decide_eq_false_iff_not] at *
    intro h
    have f1 := cmp_flip y.2.data.toList x.2.data.toList
    have f2 := cmp_flip z.2.data.toList y.2.data.toList
    have f3 := cmp_flip z.2.data.toList x.2.data.toList
    have l1 : Lib.compareBytes y.2.data.toList x.2.data.toList ≤ 0 := by omega
    have l2 : Lib.compareBytes z.2.data.toList y.2.data.toList ≤ 0 := by omega
    rcases cmp_range y.2.data.toList x.2.data.toList with q | q | q
    · have := le_lt l2 (by omega : Lib.compareBytes y.2.data.toList x.2.data.toList < 0); omega
    · rw [cmp_zero _ _ q] at l2; omega
    · omega

set_option maxHeartbeats 1000000 in
theorem sort_any {w : World} {g cap : Nat} {l : List Tm} {sp : List Value} (h : Blk w g l sp) (hlen : l.length ≤ 1000) :
    Calls Try.prog 31 #[.slice (some ⟨g, 0, none⟩) l.length cap, .func (.func 32) #[] #[]] w fun e w' => e = .returned (.tuple #[]) ∧ ∃ r, r.Perm l ∧ r.Pairwise (fun x y => cmpT x y ≤ 0) ∧ Blk w' g r sp ∧ Aside [g] w.heap.size w w' := by
  have eg : ∀ args w, (callFunc 32 args).run Try.prog w = .ok (.enter 32 args) w := enters_of Try.func32 (by kernel_rfl) rfl
  have hsz : l.toArray.size < 4611686018427387904 := by simp; omega
  have hlim : Lib.bitLen l.toArray.size < 4611686018427387904 := Nat.lt_of_le_of_lt (Lib.bitLen_le l.toArray.size 62 (by omega) (by omega)) (by omega)
  have hcon := AnyQ.pdqsortCmpFunc_all lay39 2 Try.isAgg39 Try.sizeOf39 encT cmpT 32 #[] swoT g 0 cap l.toArray w eg (fun _ _ _ _ x y => closure32 x y _) ⟨fun _ => rfl, fun x v hv => by simp [encT] at hv; rcases hv with rfl | rfl <;> rfl, h.holds, h.lt⟩ (l.toArray.size + 1) 0 l.toArray.size (Lib.bitLen l.toArray.size) l.toArray w (by omega) rfl (SWK.start h.holds) (Nat.zero_le _) (Nat.le_refl _) hsz hlim (Or.inl rfl)
  change Calls Try.prog 39 _ _ _ at hcon
  have hps := pdq_sorts (ltOf cmpT) swoT l.toArray 0 l.toArray.size (Lib.bitLen l.toArray.size) true true (Nat.zero_le _) (Nat.le_refl _) (Or.inl rfl)
  generalize pdq (ltOf cmpT) l.toArray 0 l.toArray.size (Lib.bitLen l.toArray.size) true true = d' at hcon hps
  have hl : Calls Try.prog 40 #[.int .u64 (l.length : Int)] w fun e w' => e = .returned (.int .i64 (Lib.bitLen l.toArray.size : Nat)) ∧ w' = w := by
    have h := Any.bits_Len lay40 (l.length : Int) w (by omega) (by omega)
    change Calls Try.prog 40 _ _ _ at h
    rw [Int.toNat_natCast] at h
    rw [show l.toArray.size = l.length by simp]
    exact h
  have wr : IntKind.u64.wrap (l.length : Int) = l.length := by simp [IntKind.wrap, IntKind.bits, IntKind.signed]; omega
  have es : l.toArray.size = l.length := by simp
  rw [es] at hcon hps hl
  generalize Lib.bitLen l.length = bl at hcon hl
  have H := hide h
  clear h hsz hlim es
  refine Calls.mono (R := fun e w' => e = .returned (.tuple #[]) ∧ SWK encT 2 w g 0 d' w') ?_ ?_
  · go_enter Try.func31, Try.ntmps31
    go_wp2_with (first | (go_at_call 40; refine hl.mono ?_; rintro e w' ⟨rfl, rfl⟩) | (go_at_call 39; refine hcon.mono ?_; rintro e w' ⟨rfl, hS⟩))
    go_end0
    exact ⟨rfl, hS⟩
  rintro e w' ⟨rfl, n, os, rfl⟩
  have h := H.out
  obtain ⟨hp, hs⟩ := hps
  obtain ⟨p1, p2, p3⟩ := hp
  have hsz : d'.size = l.length := by simpa using p1
  obtain ⟨s1, s2, s3⟩ := sortWorld_block w g n d' os
  refine ⟨rfl, d'.toList, ?_, ?_, s2 l sp h hsz, ⟨rfl, rfl, rfl, s3, fun k hk hn => s1 k (by simpa using hn) hk⟩⟩
  · have e1 : (d'.extract 0 l.length).toList = d'.toList := by rw [← hsz]; simp
    have e2 : (l.toArray.extract 0 l.length).toList = l := by simp
    rw [e1, e2] at p3
    exact p3
  · rw [List.pairwise_iff_getElem]
    intro i j hi hj hij
    have h1 := hs i j (Nat.zero_le _) hij (by simp at hj; omega)
    have hi2 : i < d'.size := by simpa using hi
    have hj2 : j < d'.size := by simpa using hj
    rw [getElem!_pos d' i hi2, getElem!_pos d' j hj2, ltT, decide_eq_false_iff_not] at h1
    have f := cmp_flip (d'[j]).2.data.toList (d'[i]).2.data.toList
    show Lib.compareBytes (d'[i]).2.data.toList (d'[j]).2.data.toList ≤ 0
    omega

set_option maxHeartbeats 1000000 in
theorem clone_any {ok : Nat → Prop} {w : World} {v : Value} {l : List Tm} (hl : HTerms ok w v l) (hlen : l.length ≤ 1000) :
    Calls Try.prog 30 #[v] w fun e w' => ∃ v', e = .returned v' ∧ OwnL kTerm w.heap.size w' v' l ∧ Below w.heap.size w w' := by
  obtain ⟨ao, cap, rfl, hc1, hc2, hat⟩ := hl.at
  cases ao with
  | none =>
    cases l with
    | nil =>
      have hcon := AnyE.slices_Clone_nil lay30 0 cap w
      change Calls Try.prog 30 _ _ _ at hcon
      refine hcon.mono ?_
      rintro e w' ⟨rfl, rfl⟩
      exact ⟨_, rfl, OwnL.nil, Below.refl _ _⟩
    | cons t l' =>
      obtain ⟨b, o, e, _⟩ := hat 0 (by simp)
      cases e
  | some a =>
    obtain ⟨i0, hi, hz0, hz1, hz2⟩ := info_parts kTerm.info
    have hfl := tcs_flat (l := l) (D := fun j => [.int .i64 (l[j]!).1, .string (l[j]!).2]) (fun j hj => by simp [hj]) l.length (Nat.le_refl _)
    rw [List.take_length] at hfl
    have fin : ∀ (v' : Value) (w' : World), w'.ownsRow w.heap.size 39 2 v' l.length (tcs l) → OwnL kTerm w.heap.size w' v' l := fun v' w' h => by
      refine ⟨fun j => [.int .i64 (l[j]!).1, .string (l[j]!).2], ?_, fun j hj => ?_⟩
      · rw [hfl]; exact h
      · show [Value.int .i64 (l[j]!).1, .string (l[j]!).2] = [.int .i64 (l[j]).1, .string (l[j]).2]
        simp [hj]
    have hnews : ∀ j u, (tcs l)[j]? = some u → w.cell? (a.add j) = some u := fun j u hj => by
      have hjl : j < l.length * 2 := by
        rcases Nat.lt_or_ge j (l.length * 2) with h | h
        · exact h
        · rw [List.getElem?_eq_none (by rw [tcs_len]; exact h)] at hj; cases hj
      have hq : j / 2 < l.length := by omega
      obtain ⟨b, o, e, hb, c0, c1⟩ := hat (j / 2) hq
      injection e with e
      subst e
      have adds : (⟨b, o, none⟩ : Addr).add j = ⟨b, o + j, none⟩ := by unfold Addr.add; split <;> simp_all
      rw [adds]
      obtain ⟨g0, g1⟩ := tcs_get [] l (j / 2) hq
      rw [List.append_nil] at g0 g1
      rcases (by omega : j % 2 = 0 ∨ j % 2 = 1) with e | e
      · rw [show o + j / 2 * 2 = o + j by omega] at c0
        rw [show j / 2 * 2 = j by omega] at g0
        rw [c0, ← hj, g0]
      · rw [show o + j / 2 * 2 + 1 = o + j by omega] at c1
        rw [show j / 2 * 2 + 1 = j by omega] at g1
        rw [c1, ← hj, g1]
    have hone : ∀ u ∈ tcs l, u.oneCell' = true := by
      clear fin hnews hfl hat hl
      induction l with
      | nil => intro u hu; simp [tcs] at hu
      | cons t l ih =>
        intro u hu
        simp [tcs] at hu
        rcases hu with rfl | rfl | hu
        · rfl
        · rfl
        · exact ih (by simp at hlen; omega) (by simp at hc1; omega) u hu
    have q23 : ∀ (w : World) (a : Option Addr) (n c n' c' : Nat), (binOp .eql 23 (.slice a n c) (.slice none n' c')).run Try.prog w = .ok (.bool a.isNone) w := fun w a n c n' c' => Lib.run_eql_slice_nil w _ _ a n c n' c' Try.underlying23
    have HA := hide hnews
    have HF := hide fin
    have HO := hide hone
    clear hnews fin hone hfl hat hl
    unfold maxLen at hc2
    go_enter Try.func30, Try.ntmps30
    go_wp2_with (at_builtin; refine wpList_append_own _ rfl _ _ 23 rfl w.heap.size 39 i0 kTerm.zero 2 24 Try.underlying23 hi hz0 hz1 hz2 rfl (by decide) _ _ _ rfl (World.ownsRow_made w #[] 0 (Nat.le_refl _) (Nat.zero_le _) (by simp)) a l.length cap (tcs l) rfl ?qc1 ?qc2 ?qc3 ?qc4 ?qc5 ?qc6 ?_)
    case qc1 => exact tcs_len l
    case qc2 =>
      intro j u hj
      exact Lib.cell?_alloc_some _ (HA.out j u hj)
    case qc3 => exact HO.out
    case qc4 => rw [Nat.zero_add]; unfold maxLen; omega
    case qc5 => rw [Nat.zero_add]; omega
    case qc6 => simp
    intro v' w1 hown hgrow hnil
    go_wp2
    go_ret
    refine ⟨v', rfl, HF.out _ _ (by simpa using hown), ?_⟩
    exact ((Below.refl _ w).alloc (Nat.le_refl _) _).grown hgrow (by simp) (by intro k hk; simp [Value.ownBlock] at hk; omega)
end Go.Proofs.Ytjpjedigajiomaa
