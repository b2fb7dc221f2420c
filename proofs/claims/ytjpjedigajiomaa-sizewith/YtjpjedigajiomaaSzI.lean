/-
  DERIVED. THE WALKS of appendTimes, codeOfWith.
-/
import Derived.Test.YtjpjedigajiomaaSzY
namespace Go.Proofs.Ytjpjedigajiomaa
open Go.Shelf Go.RowKit Go.Lib Go.IntWalk Go.Maps
set_option linter.unusedVariables false
set_option linter.unusedSimpArgs false
set_option maxRecDepth 100000

/-- a term, so many times -/
def times (n : Int) (u : Tm) : Tm := (n * u.1, u.2)
theorem mul_small {a b : Int} (ha : small a = true) (hb : small b = true) : -1000000000000 ≤ a * b ∧ a * b ≤ 1000000000000 := by
  have h1 := small_iff.1 ha
  have h2 := small_iff.1 hb
  constructor
  · rcases Int.le_total 0 a with p | p <;> rcases Int.le_total 0 b with q | q
    · have := Int.mul_nonneg p q; omega
    · have h3 : a * (-b) ≤ 1000000 * 1000000 := Int.mul_le_mul h1.2 (by omega) (by omega) (by omega)
      rw [Int.mul_neg] at h3; omega
    · have h3 : (-a) * b ≤ 1000000 * 1000000 := Int.mul_le_mul (by omega) (by omega) q (by omega)
      rw [Int.neg_mul] at h3; omega
    · have h3 := Int.mul_nonneg (show (0 : Int) ≤ -a by omega) (show (0 : Int) ≤ -b by omega)
      rw [Int.neg_mul_neg] at h3; omega
  · rcases Int.le_total 0 a with p | p <;> rcases Int.le_total 0 b with q | q
    · have h3 : a * b ≤ 1000000 * 1000000 := Int.mul_le_mul h1.2 h2.2 q (by omega)
      omega
    · have h3 := Int.mul_nonneg p (show (0 : Int) ≤ -b by omega)
      rw [Int.mul_neg] at h3; omega
    · have h3 := Int.mul_nonneg (show (0 : Int) ≤ -a by omega) q
      rw [Int.neg_mul] at h3; omega
    · have h3 : (-a) * (-b) ≤ 1000000 * 1000000 := Int.mul_le_mul (by omega) (by omega) (by omega) (by omega)
      rw [Int.neg_mul_neg] at h3; omega

theorem kept_more {w wr wA w8 : World} {v s0 v8 : Value} {o : Obj} (h : (∀ k, k < w.heap.size → some k ≠ v.ownBlock → wr.heap[k]? = w.heap[k]?) ∧ (s0.ownBlock = v.ownBlock ∨ ∃ k, s0.ownBlock = some k ∧ w.heap.size ≤ k)) (bA : Below wr.heap.size wr wA) (y : w.heap.size ≤ wr.heap.size) (g : (wA.alloc o).grownBy w8 s0.ownBlock) (m : Moved (wA.alloc o) s0 v8) :
    (∀ k, k < w.heap.size → some k ≠ v.ownBlock → w8.heap[k]? = w.heap[k]?) ∧ (v8.ownBlock = v.ownBlock ∨ ∃ k, v8.ownBlock = some k ∧ w.heap.size ≤ k) := by
  have yA := bA.size
  have hs : (wA.alloc o).heap.size = wA.heap.size + 1 := by simp
  refine ⟨fun k hk hne => ?_, ?_⟩
  · have hne2 : some k ≠ s0.ownBlock := fun e => by
      rcases h.2 with q | ⟨j, hj, hz⟩
      · exact hne (e.trans q)
      · rw [hj] at e; injection e with e; omega
    rw [g.block k (by omega) hne2, Below.heap_alloc _ _ _ (by omega), bA.block k (by omega), h.1 k hk hne]
  · rcases m with q | ⟨j, hj, hz⟩
    · rw [q]; exact h.2
    · exact .inr ⟨j, hj, by omega⟩

set_option maxHeartbeats 4000000 in
theorem appendTimes_any {ok : Nat → Prop} {B : Nat} {w : World} {v u : Value} {l m : List Tm} {n : Int} (hown : OwnL kTerm B w v l) (hm : HTerms ok w u m) (hok : ∀ i, ok i → i < B) (hB : B ≤ w.heap.size) (hn : ∀ t ∈ m, small n = true ∧ small t.1 = true) (hlen : l.length + m.length ≤ 3000000) :
    Calls Try.prog 24 #[v, .int .i64 n, u] w fun e w' => ∃ v', e = .returned v' ∧ OwnL kTerm B w' v' (l ++ m.map (times n)) ∧ Below B w w' ∧ ∀ k, k < w.heap.size → some k ≠ v.ownBlock → w'.heap[k]? = w.heap[k]? := by
  obtain ⟨ao, cap, rfl, hc1, hc2, hat⟩ := hm.at
  unfold maxLen at hc2
  have HM := hide hm
  clear hm
  go_enter Try.func24, Try.ntmps24
  go_wp2_with fail
  go_loopg [0, 8, 11] m.length (fun gh s0 _ s11 wr => ∃ (i : Nat), s11 = .int .i64 (i : Int) ∧ i ≤ m.length ∧ m.length ≤ gh + i ∧ Hid (OwnL kTerm B wr s0 (l ++ (m.take i).map (times n))) ∧ Below B w wr ∧ Hid ((∀ k, k < w.heap.size → some k ≠ v.ownBlock → wr.heap[k]? = w.heap[k]?) ∧ (s0.ownBlock = v.ownBlock ∨ ∃ k, s0.ownBlock = some k ∧ w.heap.size ≤ k)))
  case atStart => exact ⟨0, rfl, by omega, by omega, hide (by simpa using hown), Below.refl _ _, hide ⟨fun _ _ _ => rfl, .inl rfl⟩⟩
  case round =>
    obtain ⟨i, rfl, him, hgi, HO, bR, HKP⟩ := hrel
    have yR := bR.size
    by_cases hlt : i < m.length
    case neg =>
      have hge : ¬ (i : Int) < (m.length : Int) := by omega
      have hie : i = m.length := by omega
      go_wp2
      go_ret
      have h := HO.out
      rw [hie, List.take_length] at h
      exact ⟨_, rfl, h, bR, HKP.out.1⟩
    case pos =>
      have hltI : (i : Int) < (m.length : Int) := by omega
      obtain ⟨ao', cap', ev, _, _, hatR⟩ := (HM.out.keep (w' := wr) yR (fun i hi hl => bR.block i (hok i hi))).at
      injection ev with ev1 ev2 ev3
      subst ev1
      obtain ⟨b, o, rfl, hb, c0, c1⟩ := hatR i hlt
      have hni := hn m[i] (List.getElem_mem hlt)
      have hms := mul_small hni.1 hni.2
      have hst : l ++ (m.take i).map (times n) ++ [times n m[i]] = l ++ (m.take (i + 1)).map (times n) := by
        rw [List.take_succ_eq_append_getElem hlt, List.map_append, List.append_assoc]
        rfl
      have HST := hide hst
      have hll : (l ++ (m.take i).map (times n)).length = l.length + i := by rw [List.length_append, List.length_map, List.length_take]; omega
      generalize hti : m[i] = t at c0 c1 hms HST
      clear hti hst hatR ev2 ev3 hat
      go_upto_region 4 with fail
      obtain ⟨wA, hwA⟩ : ∃ wA, wA = wr.alloc (.cells #[.int .i64 t.1, .string t.2] 39 (0, 0)) := ⟨_, rfl⟩
      have bA : Below wr.heap.size wr wA := by rw [hwA]; exact (Below.refl _ _).alloc (Nat.le_refl _) _
      have KA : wA.heap[wr.heap.size]? = some (.cells #[.int .i64 t.1, .string t.2] 39 (0, 0)) := by rw [hwA]; exact heap_new _ _
      rw [← hwA]
      clear hwA c0 c1
      have d0 := cell_of KA 0
      have d1 := cell_of KA 1
      simp at d0 d1
      have ownA := HO.out.below bA
      have bA2 := bR.trans (bA.mono (by omega))
      have yA : B ≤ wA.heap.size := Nat.le_trans hB bA2.size
      have hNb := fun k hk => (ownA.lt k hk).2
      have q1 : kTerm.E (fun i => wA.heap.size ≤ i) wA [.int .i64 (n * t.1), .string t.2] (times n t) := rfl
      have q2 : ((l ++ (m.take i).map (times n)).length + 1) * kTerm.bytes ≤ 140737488355328 := by rw [hll]; show (l.length + i + 1) * 24 ≤ _; omega
      have q3 : (l ++ (m.take i).map (times n)).length + 1 ≤ maxLen := by rw [hll]; unfold maxLen; omega
      have yR0 : w.heap.size ≤ wr.heap.size := yR
      obtain ⟨rw1, hrw1⟩ : ∃ x, x = l ++ (m.take i).map (times n) := ⟨_, rfl⟩
      rw [← hrw1] at ownA q2 q3 HST
      clear hrw1 hll HO
      go_wp2_with (at_builtin; refine wpList_more kTerm rfl _ _ 23 39 rfl Try.underlying23 B wA.heap.size _ rw1 (by rfl) ownA [.int .i64 (n * t.1), .string t.2] (times n t) q1 (by rfl) hNb yA yA q2 q3 ?_; intro v8 w8 own8 b8 g8 m8)
      have HK8 := hide (kept_more HKP.out bA yR0 g8 m8)
      clear g8 m8
      go_wp2_with fail
      go_roundg (gk - 1)
      case measure => omega
      case rel => exact ⟨i + 1, by go_num, by omega, by omega, hide (by rw [← HST.out]; exact own8), bA2.trans b8, HK8⟩

set_option maxHeartbeats 1000000 in
theorem contains_any {ok : Nat → Prop} {w : World} {v : Value} {l : List Tm} (hl : HTerms ok w v l) :
    Calls Try.prog 37 #[v, .func (.func 29) #[] #[]] w fun e w' => e = .returned (.bool (l.any fun t => !small t.1)) ∧ Below w.heap.size w w' := by
  have hidx := indexFunc_any hl
  obtain ⟨ao, cap, rfl, hc1, hc2, hat⟩ := hl.at
  clear hl hat
  go_enter Try.func37, Try.ntmps37
  go_wp2_with fail
  refine hidx.mono ?_
  rintro e w2 ⟨r, rfl, hr, b2⟩
  rcases hr with ⟨rfl, h⟩ | ⟨i, hil, rfl, h1, h2⟩
  · have he : (l.any fun t => !small t.1) = false := by
      rw [List.any_eq_false]
      intro t ht
      obtain ⟨j, hj, rfl⟩ := List.mem_iff_getElem.1 ht
      rw [h j hj]; simp
    have HE := hide he
    clear he h
    go_wp2
    go_ret
    exact ⟨by rw [HE.out]; rfl, b2⟩
  · have he : (l.any fun t => !small t.1) = true := by
      rw [List.any_eq_true]
      exact ⟨l[i], List.getElem_mem hil, by rw [h1]; rfl⟩
    have HE := hide he
    have hi0 : (0 : Int) ≤ (i : Int) := by omega
    clear h1 h2 he
    go_wp2
    go_ret
    exact ⟨by rw [HE.out]; rfl, b2⟩

/-- what comes of a term -/
def wt (names : List ByteArray) (L : List (List Tm)) (t : Tm) : List Tm :=
  match plc names L.length t.2.data.toList with
  | some q => (L.getD q []).map (times t.1)
  | none => [t]
/-- is something beyond the range? -/
def wbad (names : List ByteArray) (L : List (List Tm)) (t : Tm) : Bool :=
  match plc names L.length t.2.data.toList with
  | some q => (L.getD q []).any fun u => !small u.1 || !small t.1
  | none => false
def withL (names : List ByteArray) (L : List (List Tm)) (s : List Tm) : List Tm := s.flatMap (wt names L)
def wcode (names : List ByteArray) (L : List (List Tm)) (s : List Tm) : Int := if s.any (wbad names L) = true then 16 else if 1000 < (withL names L s).length then 7 else 0

theorem withL_step {names : List ByteArray} {L : List (List Tm)} {s : List Tm} {i : Nat} (h : i < s.length) : withL names L (s.take (i + 1)) = withL names L (s.take i) ++ wt names L s[i] := by
  unfold withL
  rw [List.take_succ_eq_append_getElem h, List.flatMap_append]
  simp
theorem wany_step {names : List ByteArray} {L : List (List Tm)} {s : List Tm} {i : Nat} (h : i < s.length) : (s.take (i + 1)).any (wbad names L) = ((s.take i).any (wbad names L) || wbad names L s[i]) := by
  rw [List.take_succ_eq_append_getElem h, List.any_append]
  simp
theorem wbad_some {names : List ByteArray} {L : List (List Tm)} {t : Tm} {q : Nat} (h : plc names L.length t.2.data.toList = some q) : wbad names L t = ((decide (0 < (L.getD q []).length) && !small t.1) || (L.getD q []).any fun u => !small u.1) := by
  unfold wbad
  rw [h]
  simp only
  generalize L.getD q [] = m
  cases ht : small t.1 with
  | true => simp
  | false =>
    cases m with
    | nil => simp
    | cons a m => simp

theorem made_bools (n : Nat) : madeCells (Value.bool false).cells n = ((List.replicate n false).map Value.bool).toArray := by
  apply Array.ext_getElem?
  intro k
  have hc : (Value.bool false).cells = #[.bool false] := rfl
  rw [hc]
  by_cases h : k < n
  · simp [madeCells, h, Nat.mod_one]
  · simp [madeCells, h]
/-- how many come, up to 1001 -/
def few (n : Nat) : Nat := if 1001 ≤ n then 1001 else n
theorem few_le (a : Nat) : few a ≤ 1001 := by unfold few; split <;> omega
theorem few_min (a b : Nat) : min (((few a : Nat) : Int) + (b : Int)) 1001 = ((few (a + b) : Nat) : Int) := by unfold few; split <;> split <;> omega
theorem few_gt (a : Nat) : (1000 : Int) < ((few a : Nat) : Int) ↔ 1000 < a := by unfold few; split <;> omega
theorem info4b : (Try.prog.info? 4).map (fun i => (i.zero, i.size, i.bytes)) = some (some (.bool false), 1, 1) := by kernel_rfl

set_option maxHeartbeats 8000000 in
theorem codeOfWith_any {ok okl ok' : Nat → Prop} {w : World} {v vl f : Value} {s : List Tm} {names : List ByteArray} {L : List (List Tm)} (hs : HTerms ok w v s) (hL : HSizes okl w vl L) (hf : FnP ok' w f names L.length) (hsz : ∀ t ∈ s, t.2.size ≤ maxLen) (hLl : L.length ≤ 1000000) (hLs : ∀ m ∈ L, m.length ≤ 1000000) :
    Calls Try.prog 23 #[v, vl, f] w fun e w' => e = .returned (.int .i64 (wcode names L s)) ∧ Below w.heap.size w w' := by
  obtain ⟨ao, cap, rfl, hc1, hc2, hat⟩ := hs.at
  obtain ⟨aL, cL, rfl, hL1, hL2, hLat⟩ := hL.at
  unfold maxLen at hc2 hL2
  obtain ⟨i0, hi, hz0, hz1, hz2⟩ := info_parts info4b
  obtain ⟨M, hM⟩ : ∃ M, M = madeCells (Value.bool false).cells (L.length * i0.size) := ⟨_, rfl⟩
  have hmk : ∀ W : World, (Instr.makeSlice 64 (.int .i64 (L.length : Int)) (.int .i64 (L.length : Int))).run Try.prog W = .ok (.slice (some ⟨W.heap.size, 0, none⟩) L.length L.length) (W.alloc (.cells M 4)) := fun W => by
    have h := run_make (P := Try.prog) W 64 4 i0 (.bool false) Try.underlying64 hi hz0 .i64 .i64 (L.length : Int) (L.length : Int) (by omega) (by omega) (by rw [hz2]; omega) (by omega)
    simpa [hM] using h
  have HMM := hide hM
  clear hM
  have HS := hide hs
  have HL := hide hL
  have HF := hide hf
  clear hs hL hf hat hLat
  go_enter Try.func23, Try.ntmps23
  go_wp2_with fail
  go_region
  obtain ⟨w1, hw1⟩ : ∃ w1, w1 = (w.alloc (.cells M 4 (0, 0))).drew := ⟨_, rfl⟩
  have b1 : Below w.heap.size w w1 := by rw [hw1]; exact ((Below.refl _ _).alloc (Nat.le_refl _) _).drew
  have K1 : w1.heap[w.heap.size]? = some (.cells ((List.replicate L.length false).map Value.bool).toArray 4 (0, 0)) := by
    rw [hw1, ← made_bools]
    have := HMM.out
    rw [hz1, Nat.mul_one] at this
    rw [← this]
    exact heap_new w (.cells M 4 (0, 0))
  rw [← hw1]
  clear hw1 HMM hmk hi hz0 hz1 hz2
  go_wp2_with fail
  go_loopg [7, 10, 11, 12, 13, 19] s.length (fun gh s7 _ _ _ _ s19 wr => ∃ (i : Nat) (bs : List Bool), s19 = .int .i64 (i : Int) ∧ s7 = .int .i64 ((few (withL names L (s.take i)).length : Nat) : Int) ∧ i ≤ s.length ∧ s.length ≤ gh + i ∧ Hid ((s.take i).any (wbad names L) = false) ∧ bs.length = L.length ∧ Hid (∀ q, bs[q]? = some true → ((L.getD q []).any fun u => !small u.1) = false) ∧ wr.heap[w.heap.size]? = some (.cells (bs.map Value.bool).toArray 4 (0, 0)) ∧ Below w.heap.size w wr)
  case atStart => exact ⟨0, List.replicate L.length false, rfl, by simp [withL, few], by omega, by omega, hide (by simp), by simp, hide (fun q hq => by
    rw [List.getElem?_replicate] at hq
    split at hq <;> simp at hq), K1, b1⟩
  case round =>
    obtain ⟨i, bs, rfl, rfl, his, hgi, HA, hbl, HC, K, bR⟩ := hrel
    have yR := bR.size
    by_cases hlt : i < s.length
    case neg =>
      have hge : ¬ (i : Int) < (s.length : Int) := by omega
      have hie : i = s.length := by omega
      have hwc : wcode names L s = if 1000 < (withL names L s).length then 7 else 0 := by
        unfold wcode
        have := HA.out
        rw [hie, List.take_length] at this
        rw [this]
        rfl
      rw [hie, List.take_length]
      have HW := hide hwc
      clear hwc
      generalize (withL names L s).length = n at HW ⊢
      have hfg := few_gt n
      have hfl := few_le n
      by_cases hn : 1000 < n
      · have h1 : (1000 : Int) < ((few n : Nat) : Int) := hfg.2 hn
        go_wp2
        go_ret
        exact ⟨by rw [HW.out, if_pos hn]; rfl, bR⟩
      · have h1 : ¬ (1000 : Int) < ((few n : Nat) : Int) := fun h => hn (hfg.1 h)
        go_wp2
        go_ret
        exact ⟨by rw [HW.out, if_neg hn]; rfl, bR⟩
    case pos =>
      have hltI : (i : Int) < (s.length : Int) := by omega
      obtain ⟨ao', cap', ev, _, _, hatR⟩ := (HS.out.keep (w' := wr) yR (fun i hi hl => bR.block i hl)).at
      injection ev with ev1 ev2 ev3
      subst ev1
      obtain ⟨b, o, rfl, hb, c0, c1⟩ := hatR i hlt
      clear hatR ev2 ev3
      have hszi := hsz s[i] (List.getElem_mem hlt)
      have HW1 := hide (withL_step (names := names) (L := L) hlt)
      have HW2 := hide (wany_step (names := names) (L := L) hlt)
      have HW3 := hide (fun h : wbad names L s[i] = true => (show wcode names L s = 16 by
        unfold wcode
        rw [if_pos (List.any_eq_true.2 ⟨s[i], List.getElem_mem hlt, h⟩)]))
      generalize s[i] = t at c0 c1 hszi HW1 HW2 HW3
      go_upto_region 5 with fail
      obtain ⟨wA, hwA⟩ : ∃ wA, wA = wr.alloc (.cells #[.int .i64 t.1, .string t.2] 39 (0, 0)) := ⟨_, rfl⟩
      have bA : Below wr.heap.size wr wA := by rw [hwA]; exact (Below.refl _ _).alloc (Nat.le_refl _) _
      have KA : wA.heap[wr.heap.size]? = some (.cells #[.int .i64 t.1, .string t.2] 39 (0, 0)) := by rw [hwA]; exact heap_new _ _
      rw [← hwA]
      clear hwA c0 c1
      have d0 := cell_of KA 0
      have d1 := cell_of KA 1
      simp at d0 d1
      have bRA := bR.trans (bA.mono yR)
      have KK := (bA.block _ (lt_of K)).trans K
      have yk := lt_of K
      obtain ⟨Bf, Mf, nf, Df, rfl, _, _, hBf, hownf, hDf⟩ := (HF.out.below bRA).out
      have hcall := place36 hBf hownf hDf hszi
      clear hBf hownf hDf
      have hfl := few_le (withL names L (s.take i)).length
      have HFM := hide (fun k => few_min (withL names L (s.take i)).length k)
      obtain ⟨N, hN⟩ : ∃ N, N = (withL names L (s.take i)).length := ⟨_, rfl⟩
      rw [← hN] at hfl HFM ⊢
      have HNN := hide hN
      clear hN bA
      cases hp : plc names L.length t.2.data.toList with
      | none =>
        rw [hp] at hcall
        have hb0 : wbad names L t = false := by unfold wbad; rw [hp]
        have hw0 : wt names L t = [t] := by unfold wt; rw [hp]
        have HE1 := hide (HFM.out 1)
        have HB2 := hide (show (s.take (i + 1)).any (wbad names L) = false by rw [HW2.out, HA.out, hb0]; rfl)
        have HL2 := hide (show (withL names L (s.take (i + 1))).length = N + 1 by rw [HW1.out, hw0, List.length_append, HNN.out]; rfl)
        simp only [Option.getD_none, Option.isSome_none] at hcall
        clear hp hb0 hw0
        go_wp2_with (go_at_call 36; refine hcall.mono ?_; rintro e w' ⟨rfl, rfl⟩)
        go_roundg (gk - 1)
        case measure => omega
        case rel => exact ⟨i + 1, bs, by go_num, by rw [HL2.out]; exact congrArg (Value.int .i64) HE1.out, by omega, by omega, HB2, hbl, HC, KK, bRA⟩
      | some q =>
        have hq := (plc_lt hp).1
        have HWB := hide (wbad_some (L := L) hp)
        have hw0 : wt names L t = (L.getD q []).map (times t.1) := by unfold wt; rw [hp]
        have hgd : L.getD q [] = L[q] := by simp [hq]
        rw [hp] at hcall
        simp only [Option.getD_some, Option.isSome_some] at hcall
        obtain ⟨aL', cL', ev, _, _, hLat⟩ := (HL.out.keep (w' := wA) bRA.size (fun i hi hl => bRA.block i hl)).at
        injection ev with ev1 ev2 ev3
        subst ev1
        obtain ⟨bL, oL, au, nu, cu, rfl, hbL, cL0, hTu⟩ := hLat q hq
        obtain ⟨au', cu', ev4, hu1, hu2, _⟩ := hTu.at
        injection ev4 with ev5 ev6 ev7
        subst ev6
        have hmlen := hLs L[q] (List.getElem_mem hq)
        have HL2 := hide (show (withL names L (s.take (i + 1))).length = N + (L[q]).length by rw [HW1.out, hw0, List.length_append, List.length_map, HNN.out, hgd])
        have HCq := hide (fun h : bs[q]? = some true => (show ((L[q]).any fun u => !small u.1) = false by rw [← hgd]; exact HC.out q h))
        rw [hgd] at HWB
        have HE1 := hide (HFM.out (L[q]).length)
        have HCall : Hid (∀ q', q' ≠ q → bs[q']? = some true → ((L.getD q' []).any fun u => !small u.1) = false) := hide (fun q' _ h => HC.out q' h)
        have hgd2 := hide hgd
        generalize hm0 : L[q] = m at cL0 hTu hmlen HL2 HCq HWB HE1 hgd2
        clear hm0 hLat hp hw0 hgd ev2 ev3 ev5 ev7 HFM HW1
        have hqI : (q : Int) < (L.length : Int) := by omega
        obtain ⟨cb, hcb⟩ : ∃ cb, bs[q]? = some cb := ⟨bs[q]'(by omega), List.getElem?_eq_getElem (by omega)⟩
        have kq := cell_of KK q
        have kq2 : wA.cell? ⟨w.heap.size, q, none⟩ = some (.bool cb) := by rw [kq]; simp [hcb]
        have fk := fun o => free_of KK o
        clear kq
        go_upto_region 9 with (go_at_call 36; refine hcall.mono ?_; rintro e w' ⟨rfl, hww⟩; rw [hww]; clear hww)
        go_cut [41] (fun v wd => v = .bool (decide (0 < m.length) && !small t.1) ∧ Below wA.heap.size wA wd)
        case first =>
          by_cases hm : 0 < m.length
          · have hmI : (0 : Int) < (m.length : Int) := by omega
            have hbey := beyond_any t wA
            have he : (decide (0 < m.length) && !small t.1) = !small t.1 := by simp [hm]
            have HE := hide he
            clear he
            go_wp2_with fail
            refine hbey.mono ?_
            rintro e w5 ⟨rfl, b5⟩
            go_wp2_with fail
            go_meet
            case rel => exact ⟨by rw [HE.out], b5⟩
          · have hmI : ¬ (0 : Int) < (m.length : Int) := by omega
            have he : (decide (0 < m.length) && !small t.1) = false := by simp [hm]
            have HE := hide he
            clear he
            go_wp2_with fail
            go_meet
            case rel => exact ⟨by rw [HE.out], Below.refl _ _⟩
        case rest =>
          obtain ⟨rfl, bB⟩ := hcut
          obtain ⟨wB, hwB⟩ : ∃ wB, wB = wc := ⟨_, rfl⟩
          subst hwB
          have KB := (bB.block _ (lt_of KK)).trans KK
          have KAB := (bB.block _ (lt_of KA)).trans KA
          have bRB := bRA.trans (bB.mono bRA.size)
          have kqB := (bB.cell (p := ⟨w.heap.size, q, none⟩) (lt_of KK)).trans kq2
          have cLB := (bB.cell (p := ⟨bL, oL + q, none⟩) hbL).trans cL0
          have hTB := hTu.keep (w' := wB) bB.size (fun i hi hl => bB.block i hl)
          have ybB := Nat.lt_of_lt_of_le hbL bB.size
          clear hTu kq2 cL0 KK KA fk d0 d1 hcall
          have fkB := fun o => free_of KB o
          cases hbad : (decide (0 < m.length) && !small t.1) with
          | true =>
            have HC16 := hide (HW3.out (by rw [HWB.out, hbad]; rfl))
            go_wp2
            go_ret
            exact ⟨by rw [HC16.out]; rfl, bRB⟩
          | false =>
            go_upto_region 11 with fail
            go_cut [53] (fun v wd => v = .bool (!cb && m.any fun u => !small u.1) ∧ Below wB.heap.size wB wd)
            case first =>
              have hcon := contains_any hTB
              cases cb with
              | true =>
                clear hcon
                go_wp2_with fail
                go_meet
                case rel => exact ⟨rfl, Below.refl _ _⟩
              | false =>
                go_wp2_with fail
                refine hcon.mono ?_
                rintro e w5 ⟨rfl, b5⟩
                go_wp2_with fail
                go_meet
                case rel => exact ⟨by simp, b5⟩
            case rest =>
              obtain ⟨rfl, bC⟩ := hcut
              have KC := (bC.block _ (lt_of KB)).trans KB
              have bRC := bRB.trans (bC.mono bRB.size)
              have kqC := (bC.cell (p := ⟨w.heap.size, q, none⟩) (lt_of KB)).trans kqB
              clear kqB KB KAB fkB hTB cLB
              have fkC := fun o => free_of KC o
              cases hct : (!cb && m.any fun u => !small u.1) with
              | true =>
                have hany : (m.any fun u => !small u.1) = true := by
                  rw [Bool.and_eq_true] at hct
                  exact hct.2
                have HC16 := hide (HW3.out (by rw [HWB.out, hany, Bool.or_true]))
                clear hany
                go_wp2
                go_ret
                exact ⟨by rw [HC16.out]; rfl, bRC⟩
              | false =>
                have hany : (m.any fun u => !small u.1) = false := by
                  cases cb with
                  | true => exact HCq.out hcb
                  | false => simpa using hct
                have HB2 := hide (show (s.take (i + 1)).any (wbad names L) = false by rw [HW2.out, HA.out, HWB.out, hbad, hany]; rfl)
                have HC2 : Hid (∀ q', (bs.set q true)[q']? = some true → ((L.getD q' []).any fun u => !small u.1) = false) := hide (fun q' h => by
                  by_cases e : q' = q
                  · subst e; rw [hgd2.out]; exact hany
                  · rw [List.getElem?_set_ne (fun h => e h.symm)] at h
                    exact HCall.out q' e h)
                have KD := set_in KC q (.bool true)
                have eD : (bs.map Value.bool).toArray.setIfInBounds q (.bool true) = ((bs.set q true).map Value.bool).toArray := by
                  rw [List.setIfInBounds_toArray, List.map_set]
                rw [eD] at KD
                have HKD := hide KD
                clear KD eD hany hct hbad hcb KC HW3 HWB HCq
                go_wp2_with fail
                go_roundg (gk - 1)
                case measure => omega
                case rel => exact ⟨i + 1, bs.set q true, by go_num, by rw [HL2.out]; exact congrArg (Value.int .i64) HE1.out, by omega, by omega, HB2, by simp [hbl], HC2, HKD.out, bRC.setCell (p := ⟨w.heap.size, q, none⟩) (Nat.le_refl _) _⟩
end Go.Proofs.Ytjpjedigajiomaa
