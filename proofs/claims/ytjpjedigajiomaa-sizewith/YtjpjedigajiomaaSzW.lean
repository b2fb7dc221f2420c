/-
  DERIVED. THE WALKS of size.Value and size.Same.
-/
import Derived.Test.YtjpjedigajiomaaSzV
namespace Go.Proofs.Ytjpjedigajiomaa
open Go.Shelf Go.RowKit Go.Lib Go.IntWalk Go.Maps
set_option linter.unusedVariables false
set_option linter.unusedSimpArgs false
set_option maxRecDepth 100000

/-- what Value answers -/
def ValP (l : List Tm) (names : List ByteArray) (L : List Int) (x c a : Int) : Prop :=
  (FaultP l c a ∧ c ≠ 0 ∧ x = 0) ∨
  (l.length ≤ 1000 ∧ (∀ t ∈ l, small t.1 = true) ∧ ∃ r, NF (l.map te) r ∧ x = (vrun names L r 0).1 ∧ c = (vrun names L r 0).2 ∧ a = if (vrun names L r 0).2 = 0 then 0 else -1)

theorem normP_cases {B : Nat} {w : World} {l : List Tm} {u : Value} {c a : Int} (h : NormP B w l u c a) :
    (c ≠ 0 ∧ FaultP l c a) ∨ (c = 0 ∧ a = 0 ∧ l.length ≤ 1000 ∧ (∀ t ∈ l, small t.1 = true) ∧ ∃ r, OwnL kTerm B w u r ∧ NF (l.map te) (r.map te)) := by
  rcases h with ⟨h1, h2, h3, h4⟩ | ⟨h1, i, h, h2, h3, h4, h5, h6⟩ | ⟨h1, h2, h3, h4, r, h5, h6⟩
  · exact .inl ⟨by omega, .inl ⟨h1, h3, h4⟩⟩
  · exact .inl ⟨by omega, .inr (.inl ⟨h1, i, h, h2, h3, h5, h6⟩)⟩
  · exact .inr ⟨h3, h4, h1, h2, r, h5, h6⟩
theorem vrun_step {names : List ByteArray} {L : List Int} {r : List Te} {i : Nat} (h : i < r.length) (acc : Int) : vrun names L (r.drop i) acc = if (tvT names L r[i]).2 = 0 then vrun names L (r.drop (i + 1)) (acc + (tvT names L r[i]).1) else (0, (tvT names L r[i]).2) := by
  rw [List.drop_eq_getElem_cons h]
  rfl
theorem tvT_code {names : List ByteArray} {L : List Int} {t : Te} : (tvT names L t).2 = 0 ∨ (tvT names L t).2 = 9 ∨ (tvT names L t).2 = 16 := by
  unfold tvT
  split
  · exact .inl rfl
  · cases plc names L.length t.2 with
    | none => exact .inr (.inl rfl)
    | some q =>
      simp only
      split
      · exact .inl rfl
      · exact .inr (.inr rfl)

set_option maxHeartbeats 8000000 in
theorem value_any {ok okn okl : Nat → Prop} {w : World} {v vn vl : Value} {l : List Tm} {names : List ByteArray} {L : List Int} (hl : HTerms ok w v l) (hn : HNames okn w vn names) (hL : HInts okl w vl L) (hsl : ∀ t ∈ l, t.2.size ≤ maxLen) (hsn : ∀ s ∈ names, s.size ≤ maxLen) (hLl : L.length < 9223372036854775807) :
    Calls Try.prog 12 #[v, vn, vl] w fun e w' => ∃ x c a, e = .returned (.tuple #[.int .i64 x, .agg #[.int .i64 c, .int .i64 a]]) ∧ ValP l names L x c a ∧ Below w.heap.size w w' := by
  obtain ⟨w1, hw1⟩ : ∃ w1, w1 = w.alloc (.cells #[.int .i64 0, .int .i64 0] 30 (0, 0)) := ⟨_, rfl⟩
  have b1 : Below w.heap.size w w1 := by rw [hw1]; exact (Below.refl _ _).alloc (Nat.le_refl _) _
  have K_w1 : w1.heap[w.heap.size]? = some (.cells #[.int .i64 0, .int .i64 0] 30 (0, 0)) := by rw [hw1]; exact heap_new _ _
  have hnorm := norm_any (hl.keep (w' := w1) b1.size (fun i _ hl => b1.block i hl))
  obtain ⟨ao, cap, rfl, hc1, hc2, hat⟩ := hl.at
  obtain ⟨aL, cL, rfl, hL1, hL2, _⟩ := hL.at
  obtain ⟨an, cn, rfl, hn1, hn2, _⟩ := hn.at
  clear hat hl
  go_enter Try.func12, Try.ntmps12
  go_upto_region 1 with fail
  rw [← hw1]
  clear hw1
  go_wp2_with fail
  refine hnorm.mono ?_
  rintro e w2 ⟨u, c, a, rfl, hnp, b2⟩
  clear hnorm
  have K2 := (b2.block _ (lt_of K_w1)).trans K_w1
  have y1 := b1.size
  have B2 := b1.trans (b2.mono y1)
  have yk1 := lt_of K_w1
  clear b1 K_w1
  go_upto_region 2 with fail
  obtain ⟨w3, hw3⟩ : ∃ w3, w3 = w2.alloc (.cells #[.int .i64 c, .int .i64 a] 30 (0, 0)) := ⟨_, rfl⟩
  have b3 : Below w2.heap.size w2 w3 := by rw [hw3]; exact (Below.refl _ _).alloc (Nat.le_refl _) _
  have K_w3 : w3.heap[w2.heap.size]? = some (.cells #[.int .i64 c, .int .i64 a] 30 (0, 0)) := by rw [hw3]; exact heap_new _ _
  rw [← hw3]
  clear hw3
  have K3 := (b3.block _ (lt_of K2)).trans K2
  have y2 := B2.size
  have B3 := B2.trans (b3.mono y2)
  have d0 := cell_of K_w3 0
  have d1 := cell_of K_w3 1
  simp at d0 d1
  have k0 := cell_of K3 0
  have k1 := cell_of K3 1
  have fk := fun o => free_of K3 o
  simp at k0 k1
  rcases normP_cases hnp with ⟨hc0, hfp⟩ | ⟨rfl, rfl, hl1000, hsm, r, own2, hnf⟩
  · have hne : (c != 0) = true := by simpa using hc0
    have HFP := hide hfp
    clear hfp hnp
    go_wp2_with fail
    go_region
    go_wp2
    exact bodyPost_ret (v := .tuple #[.int .i64 0, .agg #[.int .i64 c, .int .i64 a]]) (by simp [results, Try.results12, go_sem, k0, k1]) rfl ⟨_, _, _, rfl, .inl ⟨HFP.out, hc0, rfl⟩, ((B3.setCell (p := ⟨w.heap.size, 0, none⟩) (Nat.le_refl _) _).setCell (p := ⟨w.heap.size, 1, none⟩) (Nat.le_refl _) _).drew⟩
  · have hpl := placesOf_any (hn.keep (w' := w3) B3.size (fun i _ hl => B3.block i hl)) hsn hLl
    have hr3 := terms_row ((own2.below b3).row)
    have hL3 := hL.keep (w' := w3) B3.size (fun i _ hl => B3.block i hl)
    have hrl : r.length ≤ 1000 := by have := nf_len hnf; simp at this; omega
    have hrb := hide (nf_bound hnf hl1000 hsm)
    have hrs := hide (fun t (ht : t ∈ r) => (show t.2.size ≤ maxLen by
      obtain ⟨x, hx, e⟩ := nf_name hnf (n := (te t).1) (s := (te t).2) (List.mem_map.2 ⟨t, ht, rfl⟩)
      obtain ⟨y, hy, rfl⟩ := List.mem_map.1 hx
      have h9 := hsl y hy
      rw [size_data] at h9 ⊢
      rw [show t.2.data.toList = y.2.data.toList from e.symm]
      exact h9))
    have HNF := hide hnf
    have HSM := hide hsm
    obtain ⟨ar, cr, rfl, hr1, hr2, hrat⟩ := hr3.at
    clear hnp own2 hnf hsm hn hL k0 k1 fk K_w3 K2 B2 b2
    clear b3
    go_wp2_with fail
    refine hpl.mono ?_
    rintro e w4 ⟨f, rfl, hfp, b4⟩
    clear hpl d0 d1
    have K4 := (b4.block _ (lt_of K3)).trans K3
    have y3 := B3.size
    have B4 := B3.trans (b4.mono y3)
    have hr4 := hide (hr3.keep (w' := w4) b4.size (fun i _ hl => b4.block i hl))
    have hL4 := hide (hL3.keep (w' := w4) b4.size (fun i _ hl => b4.block i hl))
    have hf4 := hide hfp
    clear hfp hr3 hL3 K3 b4 hrat B3
    go_wp2_with fail
    go_loopg [11, 13, 14, 15, 31] r.length (fun gh s11 _ _ _ s31 wr => ∃ (i : Nat) (acc : Int), s31 = .int .i64 (i : Int) ∧ s11 = .int .i64 acc ∧ i ≤ r.length ∧ r.length ≤ gh + i ∧ Hid (vrun names L ((r.map te).drop i) acc = vrun names L (r.map te) 0) ∧ (-(1000000000000000 * (i : Int)) ≤ acc ∧ acc ≤ 1000000000000000 * (i : Int)) ∧ Below w4.heap.size w4 wr)
    case atStart => exact ⟨0, 0, rfl, rfl, by omega, by omega, hide rfl, by constructor <;> simp, Below.refl _ _⟩
    case round =>
      obtain ⟨i, acc, rfl, rfl, hir, hgh, HV, hacc, bR⟩ := hrel
      have KR := (bR.block _ (lt_of K4)).trans K4
      have BR := B4.trans (bR.mono B4.size)
      by_cases hlt : i < r.length
      case neg =>
        have hge : ¬ (i : Int) < (r.length : Int) := by omega
        have hie : i = r.length := by omega
        have hv := HV.out
        rw [List.drop_eq_nil_of_le (by simp; omega)] at hv
        have hv2 : vrun names L (r.map te) 0 = (acc, 0) := hv.symm
        have HV2 := hide hv2
        clear hv hv2 HV
        have k0 := cell_of KR 0
        have k1 := cell_of KR 1
        have fk := fun o => free_of KR o
        simp at k0 k1
        have hab : -1000000000000000000 ≤ acc ∧ acc ≤ 1000000000000000000 := by omega
        clear hacc
        go_wp2
        exact bodyPost_ret (v := .tuple #[.int .i64 acc, .agg #[.int .i64 0, .int .i64 0]]) (by simp [results, Try.results12, go_sem, k0, k1]) rfl ⟨_, _, _, rfl, .inr ⟨hl1000, HSM.out, _, HNF.out, by rw [HV2.out], by rw [HV2.out], by rw [HV2.out]; rfl⟩, (BR.setCell (p := ⟨w.heap.size, 0, none⟩) (Nat.le_refl _) _).setCell (p := ⟨w.heap.size, 1, none⟩) (Nat.le_refl _) _⟩
      case pos =>
        have hltI : (i : Int) < (r.length : Int) := by omega
        obtain ⟨ar', cr', ev, _, _, hrat⟩ := (hr4.out.keep (w' := wr) bR.size (fun i _ hl => bR.block i hl)).at
        injection ev with ev1 ev2 ev3
        subst ev1
        obtain ⟨b, o, rfl, hb, c0, c1⟩ := hrat i hlt
        clear hrat ev2 ev3
        have hri := hrb.out (te r[i]) (List.mem_map.2 ⟨r[i], List.getElem_mem hlt, rfl⟩)
        have hrsi := hrs.out r[i] (List.getElem_mem hlt)
        have hst := vrun_step (names := names) (L := L) (r := r.map te) (i := i) (by simpa using hlt) acc
        rw [show (r.map te)[i]'(by simpa using hlt) = te r[i] by simp, HV.out] at hst
        have htb := tvT_bound (names := names) (L := L) hri
        have htc := tvT_code (names := names) (L := L) (t := te r[i])
        generalize r[i] = t at c0 c1 hri hrsi hst htb htc
        have HST := hide hst
        clear hst HV
        go_upto_region 9 with fail
        obtain ⟨wA, hwA⟩ : ∃ wA, wA = wr.alloc (.cells #[.int .i64 t.1, .string t.2] 39 (0, 0)) := ⟨_, rfl⟩
        have bA : Below wr.heap.size wr wA := by rw [hwA]; exact (Below.refl _ _).alloc (Nat.le_refl _) _
        have KA : wA.heap[wr.heap.size]? = some (.cells #[.int .i64 t.1, .string t.2] 39 (0, 0)) := by rw [hwA]; exact heap_new _ _
        rw [← hwA]
        clear hwA c0 c1
        have d0 := cell_of KA 0
        have d1 := cell_of KA 1
        simp at d0 d1
        have bA2 := bR.trans (bA.mono bR.size)
        have KA2 := (bA.block _ (lt_of KR)).trans KR
        have BA := BR.trans (bA.mono BR.size)
        have hval := valueOf_any (t := t) (hL4.out.keep (w' := wA) bA2.size (fun i _ hl => bA2.block i hl)) (hf4.out.below bA2) hrsi hri
        generalize tvT names L (te t) = tv at hval HST htb htc
        obtain ⟨x, c⟩ := tv
        simp only at hval htb htc
        clear bA KA KR BR bR
        go_wp2_with fail
        refine hval.mono ?_
        rintro e w5 ⟨rfl, b5⟩
        clear hval
        have K5 := (b5.block _ (lt_of KA2)).trans KA2
        have B5 := BA.trans (b5.mono BA.size)
        have bR5 := bA2.trans (b5.mono bA2.size)
        have k0 := cell_of K5 0
        have k1 := cell_of K5 1
        have fk := fun o => free_of K5 o
        simp at k0 k1
        by_cases hc0 : c = 0
        · subst hc0
          have HS2 : Hid (vrun names L ((r.map te).drop (i + 1)) (acc + x) = vrun names L (r.map te) 0) := hide (by have := HST.out; simpa using this.symm)
          clear HST htc
          have hab : -1000000000000000000 ≤ acc ∧ acc ≤ 1000000000000000000 := by omega
          have hac2 : -(1000000000000000 * ((i + 1 : Nat) : Int)) ≤ acc + x ∧ acc + x ≤ 1000000000000000 * ((i + 1 : Nat) : Int) := by omega
          have HA2 := hide hac2
          clear hac2 hacc
          go_wp2_with fail
          go_roundg (gk - 1)
          case measure => omega
          case rel => exact ⟨i + 1, acc + x, by go_num, rfl, by omega, by omega, HS2, HA2.out, bR5⟩
        · have hne : (c != 0) = true := by simpa using hc0
          have HS2 : Hid (vrun names L (r.map te) 0 = (0, c)) := hide (by have := HST.out; rw [if_neg hc0] at this; exact this)
          clear HST
          go_wp2
          exact bodyPost_ret (v := .tuple #[.int .i64 0, .agg #[.int .i64 c, .int .i64 (-1)]]) (by simp [results, Try.results12, go_sem, k0, k1]) rfl ⟨_, _, _, rfl, .inr ⟨hl1000, HSM.out, _, HNF.out, by rw [HS2.out], by rw [HS2.out], by rw [HS2.out]; simp [hc0]⟩, (B5.setCell (p := ⟨w.heap.size, 0, none⟩) (Nat.le_refl _) _).setCell (p := ⟨w.heap.size, 1, none⟩) (Nat.le_refl _) _⟩
end Go.Proofs.Ytjpjedigajiomaa
