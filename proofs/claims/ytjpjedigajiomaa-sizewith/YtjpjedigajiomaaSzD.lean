/-
  DERIVED. THE WALK of slices.DeleteFunc at terms: those of nought are left out.
-/
import Derived.Test.YtjpjedigajiomaaSzS
namespace Go.Proofs.Ytjpjedigajiomaa
open Go.Shelf Go.RowKit Go.Lib Go.IntWalk
set_option linter.unusedVariables false
set_option linter.unusedSimpArgs false
set_option maxRecDepth 100000

/-- is it kept? -/
def kp (t : Tm) : Bool := decide (t.1 ≠ 0)

theorem nought_any (x : Tm) (w : World) : Calls Try.prog 35 #[.agg #[.int .i64 x.1, .string x.2]] w fun e w' => e = .returned (.bool (!kp x)) ∧ Below w.heap.size w w' := by
  have e : (!kp x) = (x.1 == 0) := by unfold kp; by_cases h : x.1 = 0 <;> simp [h]
  rw [e]
  go_enter Try.func35, Try.ntmps35
  go_wp2
  go_ret
  exact ⟨rfl, (Below.refl _ w).alloc (Nat.le_refl _) _⟩

theorem nought_below (w : World) : PredBelow Try.prog 35 #[] (fun x => .agg (encT x).toArray) (fun x => !kp x) w := fun W x hb =>
  (nought_any x W).mono fun _ _ ⟨he, hb'⟩ => ⟨he, hb.trans (hb'.mono hb.size)⟩

/-- the first one that is left out, or none -/
theorem first_nought : ∀ l : List Tm, (∀ t ∈ l, kp t = true) ∨ ∃ i, ∃ h : i < l.length, kp l[i] = false ∧ ∀ j (hj : j < i), kp (l[j]'(by omega)) = true
  | [] => .inl fun t h => by simp at h
  | t :: l => by
    cases ht : kp t with
    | false => exact .inr ⟨0, by simp, ht, fun j hj => absurd hj (Nat.not_lt_zero _)⟩
    | true =>
      rcases first_nought l with h | ⟨i, hi, h1, h2⟩
      · refine .inl fun u hu => ?_
        rcases List.mem_cons.1 hu with rfl | hu
        · exact ht
        · exact h u hu
      · refine .inr ⟨i + 1, by simpa using hi, h1, fun j hj => ?_⟩
        cases j with
        | zero => exact ht
        | succ j => exact h2 j (by omega)

/-- what has been gone through: j, of which i are kept -/
structure KI (l : List Tm) (j i : Nat) (cur : List Tm) : Prop where
  len : cur.length = l.length
  lt : i < j
  le : j ≤ l.length
  kept : cur.take i = (l.take j).filter kp
  rest : ∀ q, j ≤ q → cur[q]? = l[q]?
theorem KI.start {l : List Tm} {i : Nat} (h : i < l.length) (h1 : kp l[i] = false) (h2 : ∀ j (hj : j < i), kp (l[j]'(by omega)) = true) : KI l (i + 1) i l := by
  refine ⟨rfl, by omega, by omega, ?_, fun _ _ => rfl⟩
  rw [List.take_succ_eq_append_getElem h, List.filter_append]
  simp only [List.filter_cons, h1, Bool.false_eq_true, if_false, List.filter_nil, List.append_nil]
  symm
  rw [List.filter_eq_self]
  intro t ht
  obtain ⟨j, hj, rfl⟩ := List.mem_iff_getElem.1 ht
  simp at hj
  rw [List.getElem_take]
  exact h2 j (by omega)
theorem KI.keep {l cur : List Tm} {j i : Nat} (h : KI l j i cur) (hj : j < l.length) (hk : kp l[j] = true) : KI l (j + 1) (i + 1) (cur.set i l[j]) := by
  have hi : i < cur.length := by rw [h.len]; have := h.lt; omega
  refine ⟨by simp [h.len], by have := h.lt; omega, by omega, ?_, fun q hq => ?_⟩
  · have hl2 : i < (cur.set i l[j]).length := by simpa using hi
    rw [List.take_succ_eq_append_getElem hl2, List.take_succ_eq_append_getElem hj, List.filter_append, List.getElem_set_self, List.take_set_of_le (Nat.le_refl _), h.kept]
    simp [hk]
  · rw [List.getElem?_set_ne (by have := h.lt; omega)]
    exact h.rest q (by omega)
theorem KI.skip {l cur : List Tm} {j i : Nat} (h : KI l j i cur) (hj : j < l.length) (hk : kp l[j] = false) : KI l (j + 1) i cur := by
  refine ⟨h.len, by have := h.lt; omega, by omega, ?_, fun q hq => h.rest q (by omega)⟩
  rw [List.take_succ_eq_append_getElem hj, List.filter_append, h.kept]
  simp [hk]

theorem zero_cells (m : Nat) : ∀ u ∈ (Builtin.zeroCells kTerm.zero.cells m).toList, u.oneCell' = true := by
  intro u hu
  unfold Builtin.zeroCells at hu
  simp at hu
  obtain ⟨a, _, rfl⟩ := hu
  have hs : kTerm.zero.cells = #[.int .i64 0, .string ⟨#[]⟩] := rfl
  rw [hs]
  rcases (by omega : a % 2 = 0 ∨ a % 2 = 1) with e | e
  · simp [e]; rfl
  · simp [e]; rfl
theorem zero_cells_len (m : Nat) : (Builtin.zeroCells kTerm.zero.cells m).toList.length = m * 2 := by
  unfold Builtin.zeroCells
  have hs : kTerm.zero.cells = #[.int .i64 0, .string ⟨#[]⟩] := rfl
  rw [hs]
  simp

theorem run_clearT {w : World} {g c i m : Nat} {ty : TypeId} {cur : List Tm} {sp : List Value} (h : Blk w g cur sp) (hm : i + (m + 1) = cur.length) :
    ∃ w', (Builtin.clear_ #[23] ty #[.slice (some ⟨g, i * 2, none⟩) (m + 1) c]).run Try.prog w = .ok (.tuple #[]) w' ∧ Aside [g] w.heap.size w w' ∧ Blk w' g (cur.take i) ((Builtin.zeroCells kTerm.zero.cells (m + 1)).toList ++ sp) := by
  have hzl := zero_cells_len (m + 1)
  have hz1 := zero_cells (m + 1)
  have hv : ∀ w, (zeroValue 39).run Try.prog w = .ok kTerm.zero w := Try.zeroValue39
  have hst := run_storeCells_at (P := Try.prog) g (i * 2) 39 (Builtin.zeroCells kTerm.zero.cells (m + 1)).toList 0 _ w h (by simp [tcs_len, hzl]; omega) hz1
  generalize hZ : (Builtin.zeroCells kTerm.zero.cells (m + 1)).toList = Z at *
  obtain ⟨R, hR⟩ : ∃ R, R = (List.take (i * 2 + 0) (tcs cur ++ sp).toArray.toList ++ Z ++ List.drop (i * 2 + 0 + Z.length) (tcs cur ++ sp).toArray.toList).toArray := ⟨_, rfl⟩
  rw [← hR] at hst
  refine ⟨w.setRow g R, by simp [Builtin.clear_, run_underlying Try.underlying23, hv, hZ, hst], ⟨rfl, rfl, rfl, by simp, fun k hk hn => setRow_other w g k R (by simpa using hn)⟩, ?_⟩
  unfold Blk
  rw [setRow_heap _ _ _ _ _ _ h, hR]
  congr 3
  rw [List.toList_toArray, Nat.add_zero, hzl]
  have hc : cur.take i ++ cur.drop i = cur := List.take_append_drop _ _
  have e1 : tcs cur = tcs (cur.take i) ++ tcs (cur.drop i) := by rw [← tcs_append, hc]
  have l1 : (tcs (cur.take i)).length = i * 2 := by rw [tcs_len, List.length_take]; congr 1; omega
  have l2 : (tcs (cur.drop i)).length = (m + 1) * 2 := by rw [tcs_len, List.length_drop]; congr 1; omega
  have take1 : List.take (i * 2) (tcs (cur.take i) ++ tcs (cur.drop i) ++ sp) = tcs (cur.take i) := by rw [List.append_assoc, List.take_left' l1]
  have drop1 : List.drop (i * 2 + (m + 1) * 2) (tcs (cur.take i) ++ tcs (cur.drop i) ++ sp) = sp := List.drop_left' (by rw [List.length_append, l1, l2])
  rw [e1, take1, drop1, List.append_assoc]

set_option maxHeartbeats 4000000 in
theorem delete_any {B : Nat} {w : World} {v : Value} {l : List Tm} (hown : OwnL kTerm B w v l) (hlen : l.length ≤ 1000) :
    Calls Try.prog 34 #[v, .func (.func 35) #[] #[]] w fun e w' => ∃ v', e = .returned v' ∧ OwnL kTerm B w' v' (l.filter kp) ∧ Below B w w' := by
  have eg : ∀ args w, (callFunc 35 args).run Try.prog w = .ok (.enter 35 args) w := enters_of Try.func35 (by kernel_rfl) rfl
  rcases own_blk hown with ⟨rfl, rfl⟩ | ⟨g, c, sp, rfl, hB, hb, hc, hm, hs⟩
  · have hidx : Calls Try.prog 28 #[.slice none 0 0, .func (.func 35) #[] #[]] w fun e w' => e = .returned (.int .i64 (-1)) ∧ w' = w := by
      go_enter Try.func28, Try.ntmps28
      go_wp2
      go_loopg [5, 8] 0 (fun g _ s8 wr => s8 = .int .i64 0 ∧ wr = w)
      case atStart => exact ⟨rfl, rfl⟩
      case round =>
        obtain ⟨rfl, rfl⟩ := hrel
        go_wp2
        go_ret
        exact ⟨rfl, rfl⟩
    go_enter Try.func34, Try.ntmps34
    go_wp2_with (go_at_call 28; refine hidx.mono ?_; rintro e w' ⟨rfl, rfl⟩)
    go_ret
    exact ⟨_, rfl, OwnL.nil, Below.refl _ _⟩
  · have hgl := hb.lt
    have hidx := AnyQ.slices_IndexFunc lay28 2 Try.isAgg39 Try.sizeOf39 encT (fun _ => rfl) (fun x => !kp x) 35 #[] eg g 0 l.length c l w (nought_below w) (Nat.le_refl _) (by omega) hgl (fun j hj i v hi => by
      obtain ⟨t0, t1⟩ := hb.cell hj
      rw [getElem!_pos l j hj] at hi
      rw [Nat.zero_add]
      match i, hi with
      | 0, hi => simp [encT] at hi; rw [← hi]; exact t0
      | 1, hi => simp [encT] at hi; rw [← hi]; exact t1
      | i + 2, hi => simp [encT] at hi)
    change Calls Try.prog 28 _ _ _ at hidx
    rcases first_nought l with h | ⟨i0, hi0, h1, h2⟩
    · rw [show Lib.idxBy (fun _ y => !kp y) (List.take l.length l) default = -1 from Lib.idxBy_miss (fun _ y => !kp y) l l.length default (fun j hj => by show (!kp l[j]!) = false; rw [getElem!_pos l j hj, h _ (List.getElem_mem hj)]; rfl)] at hidx
      have HB := hide hb
      clear hb hown
      go_enter Try.func34, Try.ntmps34
      go_wp2_with (go_at_call 28; refine hidx.mono ?_; rintro e w2 ⟨rfl, b2⟩)
      go_ret
      rw [List.filter_eq_self.2 h]
      exact ⟨_, rfl, blk_own (HB.out.below b2 hgl) hB hc hm hs, b2.mono (by omega)⟩
    · rw [show Lib.idxBy (fun _ y => !kp y) (List.take l.length l) default = (i0 : Int) from Lib.idxBy_hit (fun _ y => !kp y) l l.length i0 default hi0 (Nat.le_refl _) (by show (!kp l[i0]!) = true; rw [getElem!_pos l i0 hi0, h1]; rfl) (fun j hj => by show (!kp l[j]!) = false; rw [getElem!_pos l j (by omega), h2 j hj]; rfl)] at hidx
      have hne1 : ((i0 : Int) == -1) = false := beq_eq_false_iff_ne.2 (by omega)
      have HK := hide (KI.start hi0 h1 h2)
      clear h1 h2 hown eg
      unfold maxLen at hm
      have HB := hide hb
      clear hb
      go_enter Try.func34, Try.ntmps34
      go_wp2_with (go_at_call 28; refine hidx.mono ?_; rintro e w2 ⟨rfl, b2⟩)
      have HB2 := hide (HB.out.below b2 hgl)
      clear HB
      have y2 := b2.size
      go_loopg [5, 6, 7] l.length (fun gh s5 s6 _ wr => ∃ (i j : Nat) (cur : List Tm), s5 = .int .i64 (i : Int) ∧ s6 = .int .i64 (j : Int) ∧ j ≤ l.length ∧ l.length ≤ gh + j ∧ i < j ∧ cur.length = l.length ∧ Hid (KI l j i cur) ∧ Hid (Blk wr g cur sp) ∧ Aside [g] w.heap.size w wr)
      case atStart => exact ⟨i0, i0 + 1, l, rfl, by go_num, by omega, by omega, by omega, rfl, HK, HB2, aside b2⟩
      case round =>
        obtain ⟨i, j, cur, rfl, rfl, hjl, hgj, hij, hcl, HI, HBr, hA⟩ := hrel
        have hgr := HBr.out.lt
        by_cases hlt : j < l.length
        case pos =>
          have hltI : (j : Int) < (l.length : Int) := by omega
          have hiI : (i : Int) < (l.length : Int) := by omega
          obtain ⟨c0, c1⟩ := HBr.out.cell (i := j) (by omega)
          have hcj : cur[j]'(by omega) = l[j] := by
            have := HI.out.rest j (Nat.le_refl _)
            rw [List.getElem?_eq_getElem (by omega), List.getElem?_eq_getElem hlt] at this
            exact Option.some.inj this
          rw [hcj] at c0 c1
          have HKP := hide (HI.out.keep hlt)
          have HSK := hide (HI.out.skip hlt)
          generalize l[j] = t at c0 c1 HKP HSK
          clear hcj
          go_upto_region 8 with fail
          obtain ⟨wA, hwA⟩ : ∃ wA, wA = wr.alloc (.cells #[.int .i64 t.1, .string t.2] 39 (0, 0)) := ⟨_, rfl⟩
          have bA : Below wr.heap.size wr wA := by rw [hwA]; exact (Below.refl _ _).alloc (Nat.le_refl _) _
          have KA : wA.heap[wr.heap.size]? = some (.cells #[.int .i64 t.1, .string t.2] 39 (0, 0)) := by rw [hwA]; exact heap_new _ _
          rw [← hwA]
          clear hwA c0 c1
          have d0 := cell_of KA 0
          have d1 := cell_of KA 1
          simp at d0 d1
          have hcall := nought_any t wA
          cases hk : kp t with
          | true =>
            rw [hk] at hcall
            go_wp2_with fail
            refine hcall.mono ?_
            rintro e w5 ⟨rfl, b5⟩
            have K5 := (b5.block _ (lt_of KA)).trans KA
            have B5 := (HBr.out.below bA hgr).below b5 (Nat.lt_of_lt_of_le hgr bA.size)
            have HB5 := hide B5
            obtain ⟨f0, f1⟩ := B5.cell (i := i) (by omega)
            have ff := fun o => B5.free o
            generalize hcu : cur[i]'(by omega) = u at f0 f1
            clear hcu B5
            clear d0 d1
            have d0 := cell_of K5 0
            have d1 := cell_of K5 1
            simp at d0 d1
            have A5 := hA.trans (aside (S := [g]) (bA.trans (b5.mono bA.size))) hA.size
            clear hcall bA b5 KA K5 hidx b2
            go_wp2_with fail
            go_roundg (gk - 1)
            case measure => omega
            case rel => exact ⟨i + 1, j + 1, cur.set i t, by go_num, by go_num, by omega, by omega, by omega, by simp [hcl], hide (HKP.out hk), hide (HB5.out.put (by omega) t), (A5.trans (Aside.setCell (B := w5.heap.size) (p := ⟨g, i * 2, none⟩) (by simp) _) A5.size).trans (Aside.setCell (B := w5.heap.size) (p := ⟨g, i * 2 + 1, none⟩) (by simp) _) A5.size⟩
          | false =>
            rw [hk] at hcall
            go_wp2_with (go_at_call 35; refine hcall.mono ?_; rintro e w5 ⟨rfl, b5⟩)
            go_roundg (gk - 1)
            case measure => omega
            case rel => exact ⟨i, j + 1, cur, rfl, by go_num, by omega, by omega, by omega, hcl, hide (HSK.out hk), hide ((HBr.out.below bA hgr).below b5 (Nat.lt_of_lt_of_le hgr bA.size)), (hA.trans (aside (bA.trans (b5.mono bA.size))) hA.size)⟩
        case neg =>
          have hje : j = l.length := by omega
          subst hje
          have hge : ¬ (l.length : Int) < (l.length : Int) := by omega
          obtain ⟨m, hm2⟩ : ∃ m, i + (m + 1) = l.length := ⟨l.length - i - 1, by omega⟩
          have hm3 : l.length - i = m + 1 := by omega
          have hkp := HI.out.kept
          rw [List.take_length] at hkp
          obtain ⟨w6, hrun, A6, B6⟩ := run_clearT (ty := 0) (c := c - i) (i := i) (m := m) HBr.out (by omega)
          have HKP := hide hkp
          have HB6 := hide B6
          clear hkp hidx b2 hjl hgj HI B6
          go_wp2
          go_ret
          have hil : (cur.take i).length = i := by rw [List.length_take]; omega
          have hb6 := blk_own (B := B) (c := c) HB6.out hB (by omega) (by unfold maxLen; omega) (by rw [List.length_append, zero_cells_len, hil]; omega)
          rw [hil, HKP.out] at hb6
          exact ⟨_, rfl, hb6, ((hA.trans A6 hA.size).mono (by omega : B ≤ w.heap.size)).below (by simp; omega)⟩
end Go.Proofs.Ytjpjedigajiomaa
