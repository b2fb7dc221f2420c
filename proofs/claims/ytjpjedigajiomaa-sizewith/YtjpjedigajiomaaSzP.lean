/-
  DERIVED. THE WALKS of placesOf and its closure: names in a map.
-/
import Derived.Test.YtjpjedigajiomaaSzN
import Derived.Maps.OwnSet
import Derived.StringKeys
namespace Go.Proofs.Ytjpjedigajiomaa
open Go.Shelf Go.RowKit Go.Lib Go.IntWalk Go.Maps Go.WideMaps
set_option linter.unusedVariables false
set_option linter.unusedSimpArgs false
set_option maxRecDepth 100000

/-- a name's first place among the first k; the empty name has none -/
def plc (names : List ByteArray) (k : Nat) (s : List UInt8) : Option Nat := if s = [] then none else (names.take k).findIdx? fun x => x.data.toList == s
/-- what the map reads as -/
def PlD (names : List ByteArray) (k : Nat) (D : DataW Unit) : Prop :=
  ∀ s : List UInt8, Maps.has D (.string s) = (plc names k s).isSome ∧ D.atKey (.string s) (.lit (.int .i64 0)) = .lit (.int .i64 (((plc names k s).getD 0 : Nat) : Int))
theorem plc_zero (names : List ByteArray) (s : List UInt8) : plc names 0 s = none := by simp [plc]
theorem plc_step {names : List ByteArray} {k : Nat} (h : k < names.length) (s : List UInt8) : plc names (k + 1) s = if s = [] then none else match plc names k s with
    | some q => some q
    | none => if (names[k]).data.toList = s then some k else none := by
  unfold plc
  by_cases hs : s = []
  · simp [hs]
  · rw [if_neg hs, if_neg hs, if_neg hs, List.take_succ_eq_append_getElem h, List.findIdx?_append]
    have hl : (names.take k).length = k := by rw [List.length_take]; omega
    cases h1 : List.findIdx? (fun x => x.data.toList == s) (names.take k) with
    | some q => simp
    | none =>
      by_cases h2 : (names[k]).data.toList = s
      · simp [h2, hl]
      · simp [h2]
theorem pld_start (names : List ByteArray) : PlD names 0 (.map []) := fun s => by
  rw [plc_zero]
  exact ⟨rfl, rfl⟩
theorem pld_skip {names : List ByteArray} {k : Nat} {D : DataW Unit} (h : PlD names k D) (hk : k < names.length) (hs : Maps.has D (.string (names[k]).data.toList) = true ∨ (names[k]).data.toList = []) : PlD names (k + 1) D := by
  intro s
  have e : plc names (k + 1) s = plc names k s := by
    rw [plc_step hk]
    by_cases h0 : s = []
    · simp [h0, plc]
    · rw [if_neg h0]
      cases h1 : plc names k s with
      | some q => rfl
      | none =>
        simp only
        rw [if_neg]
        intro e
        rcases hs with hs | hs
        · rw [e, (h s).1, h1] at hs
          cases hs
        · exact h0 (e ▸ hs)
  rw [e]
  exact h s
theorem pld_put {names : List ByteArray} {k : Nat} {D : DataW Unit} (hD : IsMap D) (h : PlD names k D) (hk : k < names.length) (hs : Maps.has D (.string (names[k]).data.toList) = false) (hne : (names[k]).data.toList ≠ []) : PlD names (k + 1) (D.put (.string (names[k]).data.toList) (.lit (.int .i64 (k : Int)))) := by
  intro s
  rw [plc_step hk]
  have hlit : WideAt.IsKeyLit (.string (names[k]).data.toList) := by trivial
  by_cases e : s = (names[k]).data.toList
  · subst e
    have h1 : plc names k (names[k]).data.toList = none := by
      have := (h (names[k]).data.toList).1
      rw [hs] at this
      cases hx : plc names k (names[k]).data.toList with
      | none => rfl
      | some q => rw [hx] at this; cases this
    rw [if_neg hne, h1]
    simp only [if_true]
    exact ⟨has_put_same hD hlit _, atKey_put_same hD hlit _ _⟩
  · have hne2 : (Lit.string s) ≠ .string (names[k]).data.toList := fun q => by injection q with q; exact e q
    rw [has_put_other hne2, atKey_put_other hne2]
    by_cases h0 : s = []
    · have := h s
      rw [if_pos h0]
      simpa [plc, h0] using this
    · rw [if_neg h0]
      have := h s
      cases h1 : plc names k s with
      | some q => rw [h1] at this; exact this
      | none =>
        rw [h1] at this
        simp only
        rw [if_neg (fun q => e q.symm)]
        exact this

theorem law9 : Keyed Try.prog 9 := string_keyed Try.underlying9
theorem zero3 (w : World) : (zeroValue 3).run Try.prog w = .ok (.int .i64 0) w := by kernel_rfl

/-- f tells the places of names -/
structure FnP (ok : Nat → Prop) (w : World) (f : Value) (names : List ByteArray) (k : Nat) : Prop where
  out : ∃ B M n D, f = .func (.func 36) #[] #[.pointer (some ⟨B, 0, none⟩)] ∧ ok B ∧ ok M ∧ w.heap[B]? = some (.cells #[.map (some M)] 63 (0, 0)) ∧ w.ownsMap Try.prog 9 (plainElem Try.prog 3) M n D ∧ PlD names k D
theorem FnP.keep {ok : Nat → Prop} {w w' : World} {f : Value} {names : List ByteArray} {k : Nat} (h : FnP ok w f names k) (hk : ∀ i, ok i → i < w.heap.size → w'.heap[i]? = w.heap[i]?) : FnP ok w' f names k := by
  obtain ⟨B, M, n, D, e, o1, o2, h1, h2, h3⟩ := h.out
  obtain ⟨es, clock, hb, r⟩ := h2
  exact ⟨B, M, n, D, e, o1, o2, (hk B o1 (lt_of h1)).trans h1, ⟨es, clock, (hk M o2 (lt_of hb)).trans hb, r⟩, h3⟩
theorem FnP.below {ok : Nat → Prop} {w w' : World} {f : Value} {names : List ByteArray} {k : Nat} (h : FnP ok w f names k) (hb : Below w.heap.size w w') : FnP ok w' f names k := h.keep fun i _ hl => hb.block i hl

set_option maxHeartbeats 2000000 in
/-- the closure tells a name's place -/
theorem place36 {B M n : Nat} {D : DataW Unit} {names : List ByteArray} {k : Nat} {s : ByteArray} {w : World} (hB : w.heap[B]? = some (.cells #[.map (some M)] 63 (0, 0))) (hown : w.ownsMap Try.prog 9 (plainElem Try.prog 3) M n D) (hD : PlD names k D) (hs : s.size ≤ maxLen) :
    Calls Try.prog 36 #[.string s, .pointer (some ⟨B, 0, none⟩)] w fun e w' => e = .returned (.tuple #[.int .i64 (((plc names k s.data.toList).getD 0 : Nat) : Int), .bool (plc names k s.data.toList).isSome]) ∧ w' = w := by
  have hkey : keyOf Try.prog 9 (.string s) = some (.string s.data.toList) := keyOf_string_mk Try.underlying9 hs
  have c0 := cell_of hB 0
  simp at c0
  have HD := hide (hD s.data.toList)
  clear hD
  go_enter Try.func36, Try.ntmps36
  go_wp2_with (at_lookup; refine wpList_lookup_own_ok_int _ rfl _ _ 63 rfl 9 3 .i64 law9 Try.underlying63 Try.underlying3 (zero3 _) M n D rfl hown _ _ rfl hkey ?_; intro c hat hwc)
  have h2 := HD.out.2
  rw [hat] at h2
  injection h2 with h2
  injection h2 with _ h2
  rw [← HD.out.1, ← h2]
  go_ret2
  exact ⟨rfl, rfl⟩

set_option maxHeartbeats 4000000 in
theorem placesOf_any {ok : Nat → Prop} {w : World} {v : Value} {names : List ByteArray} {cnt : Nat} (hn : HNames ok w v names) (hsz : ∀ s ∈ names, s.size ≤ maxLen) (hcnt : cnt < 9223372036854775807) :
    Calls Try.prog 22 #[v, .int .i64 (cnt : Int)] w fun e w' => ∃ f, e = .returned f ∧ FnP (fun i => w.heap.size ≤ i) w' f names cnt ∧ Below w.heap.size w w' := by
  obtain ⟨ao, cap, rfl, hc1, hc2, hat⟩ := hn.at
  have hmm := @run_makeMap Try.prog
  obtain ⟨m, hm⟩ : ∃ m, m = min names.length cnt := ⟨_, rfl⟩
  have hm1 : m ≤ names.length := by omega
  have HMM := hide hm
  unfold maxLen at hc2
  have hmin : min (names.length : Int) (cnt : Int) = (m : Int) := by omega
  clear hm
  clear hn
  go_enter Try.func22, Try.ntmps22
  go_wp2_with fail
  go_loopg [6, 7, 8, 9, 18] m (fun gh _ _ _ _ s18 wr => ∃ (k : Nat) (D : DataW Unit), s18 = .int .i64 (k : Int) ∧ k ≤ m ∧ m ≤ gh + k ∧ Hid (wr.ownsMap Try.prog 9 (plainElem Try.prog 3) w.heap.size k D) ∧ Hid (PlD names k D) ∧ Hid (wr.heap[w.heap.size + 1]? = some (.cells #[.map (some w.heap.size)] 63 (0, 0))) ∧ Below w.heap.size w wr)
  case atStart => exact ⟨0, .map [], rfl, by omega, by omega, hide ((World.ownsMap_made w _ _ _).alloc _), hide (pld_start names), hide (by have := heap_new (w.alloc (.map #[] 0)) (.cells #[.map (some w.heap.size)] 63 (0, 0)); simpa using this), ((Below.refl _ w).alloc (Nat.le_refl _) _).alloc (by simp) _⟩
  case round =>
    obtain ⟨k, D, rfl, hkm, hgk, HO, HD, HB, bR⟩ := hrel
    have c0 := cell_of HB.out 0
    simp at c0
    have yM := HO.out.lt
    have yB := lt_of HB.out
    by_cases hlt : k < m
    case neg =>
      have hge : ¬ (k : Int) < (m : Int) := by omega
      have hke : k = m := by omega
      go_wp2_with fail
      go_ret
      refine ⟨_, rfl, ⟨_, _, _, D, rfl, ?_, ?_, HB.out, HO.out, ?_⟩, bR⟩
      · show w.heap.size ≤ w.heap.size + 1; omega
      · exact Nat.le_refl _
      · intro s
        have h := HD.out s
        have e : plc names k s = plc names cnt s := by
          unfold plc
          rw [hke, HMM.out]
          rcases Nat.le_total names.length cnt with h | h
          · rw [Nat.min_eq_left h, List.take_of_length_le (Nat.le_refl _), List.take_of_length_le h]
          · rw [Nat.min_eq_right h]
        rw [← e]
        exact h
    case pos =>
      have hltI : (k : Int) < (m : Int) := by omega
      have hkl : k < names.length := by omega
      obtain ⟨b, o, rfl, hb, t0⟩ := hat k hkl
      have e0 := (bR.cell (p := ⟨b, o + k, none⟩) hb).trans t0
      have hkey := keyOf_string_mk Try.underlying9 (hsz _ (List.getElem_mem hkl))
      have HSK := hide (pld_skip HD.out hkl)
      have HPT := hide (pld_put HO.out.isMap HD.out hkl)
      generalize names[k] = x at e0 hkey HSK HPT
      have hown := HO.out
      clear t0
      cases hh : Maps.has D (.string x.data.toList) with
      | true =>
        go_wp2_with (at_lookup; refine wpList_lookup_own_ok_int _ rfl _ _ 63 rfl 9 3 .i64 law9 Try.underlying63 Try.underlying3 (zero3 _) w.heap.size k D rfl hown _ _ rfl hkey ?_; intro c hat2 hwc)
        go_roundg (gk - 1)
        case measure => omega
        case rel => exact ⟨k + 1, D, by go_num, by omega, by omega, hide (hown.mono (by omega)), hide (HSK.out (.inl hh)), HB, bR⟩
      | false =>
        by_cases hem : x.data.toList = []
        · have hx : x = ⟨#[]⟩ := by
            have h1 : x.data = #[] := by
              have := congrArg List.toArray hem
              simpa using this
            exact ByteArray.ext h1
          subst hx
          go_wp2_with (at_lookup; refine wpList_lookup_own_ok_int _ rfl _ _ 63 rfl 9 3 .i64 law9 Try.underlying63 Try.underlying3 (zero3 _) w.heap.size k D rfl hown _ _ rfl hkey ?_; intro c hat2 hwc)
          go_roundg (gk - 1)
          case measure => omega
          case rel => exact ⟨k + 1, D, by go_num, by omega, by omega, hide (hown.mono (by omega)), hide (HSK.out (.inr (by first | trivial | rfl))), HB, bR⟩
        · have HP2 := hide (HPT.out hh hem)
          have hne1 : x.toList.isEmpty = false := by
            rw [Lib.toList_data]
            cases hc : x.data.toList with
            | nil => exact absurd hc hem
            | cons a b => rfl
          have hne2 : ¬ x.toList = [] := by rw [Lib.toList_data]; exact hem
          have hne3 : (x.toList == ([] : List UInt8)) = false := by simpa using hne2
          go_wp2_with (first
            | (at_lookup; refine wpList_lookup_own_ok_int _ rfl _ _ 63 rfl 9 3 .i64 law9 Try.underlying63 Try.underlying3 (zero3 _) w.heap.size k D rfl hown _ _ rfl hkey ?_; intro c hat2 hwc)
            | (at_mapUpdate; refine wpList_mapUpdate_own _ rfl _ _ _ 63 rfl 9 3 law9 Try.underlying63 _ w.heap.size k D rfl hown (by unfold maxLen; omega) _ _ _ rfl rfl hkey _ [] (plainElem_int Try.underlying3 (WalkArith.wf_i64 (by omega))) ?_; intro w4 hown4 hg4))
          go_roundg (gk - 1)
          case measure => omega
          case rel => exact ⟨k + 1, _, by go_num, by omega, by omega, hide hown4, HP2, hide ((hg4.block _ yB (fun e => by injection e with e; omega)).trans HB.out), bR.grown hg4 (Nat.le_of_lt yM) (fun j hj => by cases hj; exact Nat.le_refl _)⟩
end Go.Proofs.Ytjpjedigajiomaa
