/-
  DERIVED. THE WALKS of the reader where there are no tokens at all.
-/
import Derived.Test.YtmgaeapckfdbpaaDoorM26
namespace Go.Proofs.YtmgaeapckfdbpaaDoor
open Go.RowKit Go.IntWalk
set_option linter.unusedVariables false
set_option linter.unusedSimpArgs false
set_option maxRecDepth 100000

/-- a reader over no tokens -/
def RdE (w : World) (b : Nat) (ao : Option Addr) (cap len : Nat) : Prop := w.heap[b]? = some (.cells #[.slice ao 0 cap, .int .i64 0, .int .i64 (len : Int), .int .i64 0] 68 (0, 0))
theorem RdE.below {w w' : World} {b : Nat} {ao : Option Addr} {cap len : Nat} (h : RdE w b ao cap len) (hb : Below w.heap.size w w') : RdE w' b ao cap len := (hb.block b (lt_of h)).trans h
theorem RdE.alloc {w : World} {b : Nat} {ao : Option Addr} {cap len : Nat} (h : RdE w b ao cap len) (o : Obj) : RdE (w.alloc o) b ao cap len := keep_alloc h o

set_option maxHeartbeats 2000000 in
theorem peekE {w : World} {b : Nat} {ao : Option Addr} {cap len : Nat} (h : RdE w b ao cap len) :
    Calls Tryd.prog 39 #[.pointer (some ⟨b, 0, none⟩)] w fun e w' => e = .returned (tokV ⟨0, len, [], 0⟩) ∧ Below w.heap.size w w' := by
  have hb := lt_of h
  have c0 := cell_of h 0
  have c1 := cell_of h 1
  have c2 := cell_of h 2
  simp at c0 c1 c2
  go_enter Tryd.func39, Tryd.ntmps39
  go_wp2
  go_region
  go_wp2
  exact bodyPost_ret (v := tokV ⟨0, len, [], 0⟩) (by simp [tokV, str, results, Tryd.results39, go_sem]) rfl ⟨rfl, ((Below.refl _ w).alloc (Nat.le_refl _) _).drew⟩

set_option maxHeartbeats 2000000 in
theorem seesE {w : World} {b : Nat} {ao : Option Addr} {cap len : Nat} (h : RdE w b ao cap len) (s : ByteArray) (hs : (([] : List UInt8) == s.data.toList) = false) :
    Calls Tryd.prog 40 #[.pointer (some ⟨b, 0, none⟩), .string s] w fun e w' => e = .returned (.bool false) ∧ Below w.heap.size w w' := by
  have hp := peekE h
  obtain ⟨t, ht⟩ : ∃ t : Tk.Tok, t = ⟨0, len, [], 0⟩ := ⟨_, rfl⟩
  rw [← ht] at hp
  unfold tokV at hp
  have hf := fun x w => tok_field2 t x w
  have HT := hide ht
  clear ht
  go_enter Tryd.func40, Tryd.ntmps40
  go_wp2_with (go_at_call 39; refine hp.mono ?_; rintro e w' ⟨rfl, hb⟩)
  go_ret
  refine ⟨ret_bool ?_, hb⟩
  have := HT.out
  subst this
  simpa [str, Lib.toList_data] using hs

set_option maxHeartbeats 2000000 in
theorem needE {w : World} {b : Nat} {ao : Option Addr} {cap len : Nat} (h : RdE w b ao cap len) (s : ByteArray) (hs : (([] : List UInt8) == s.data.toList) = false) :
    Calls Tryd.prog 50 #[.pointer (some ⟨b, 0, none⟩), .string s] w fun e w' => e = upE 5 len ∧ Below w.heap.size w w' := by
  have htake : ∀ w, RdE w b ao cap len → Calls Tryd.prog 52 #[.pointer (some ⟨b, 0, none⟩), .string s] w fun e w' => e = .returned (.bool false) ∧ Below w.heap.size w w' := fun w h => by
    have hp := seesE h s hs
    go_enter Tryd.func52, Tryd.ntmps52
    go_wp2_with (go_at_call 40; refine hp.mono ?_; rintro e w1 ⟨rfl, hb⟩)
    go_ret
    exact ⟨rfl, hb⟩
  have href : ∀ w, RdE w b ao cap len → Calls Tryd.prog 62 #[.pointer (some ⟨b, 0, none⟩)] w fun e w' => e = upE 5 len ∧ Below w.heap.size w w' := fun w h => by
    have hp := peekE h
    unfold tokV at hp
    go_enter Tryd.func62, Tryd.ntmps62
    go_wp2_with fail
    refine hp.mono ?_
    rintro e w1 ⟨rfl, hb⟩
    go_wp2_with fail
    refine (giveUp_any _ _ _).mono ?_
    rintro e w2 ⟨rfl, rfl⟩
    exact ⟨rfl, rfl, hb.alloc hb.size _⟩
  have hp := htake w h
  go_enter Tryd.func50, Tryd.ntmps50
  go_wp2_with fail
  refine hp.mono ?_
  rintro e w1 ⟨rfl, hb⟩
  go_wp2_with fail
  refine (href _ (h.below hb)).mono ?_
  rintro e w2 ⟨rfl, ha⟩
  exact ⟨rfl, rfl, hb.trans (ha.mono hb.size)⟩

set_option maxHeartbeats 4000000 in
theorem nodeE {w : World} {b : Nat} {ao : Option Addr} {cap len : Nat} (h : RdE w b ao cap len) :
    Calls Tryd.prog 38 #[.pointer (some ⟨b, 0, none⟩)] w fun e w' => e = upE 5 len ∧ Below w.heap.size w w' := by
  obtain ⟨t, ht⟩ : ∃ t : Tk.Tok, t = ⟨0, len, [], 0⟩ := ⟨_, rfl⟩
  have hp := peekE (h.alloc (.cells #[.string ⟨#[]⟩, .int .i64 0, .slice none 0 0, .slice none 0 0, .slice none 0 0, .slice none 0 0, .slice none 0 0] 39 (0, 0)))
  rw [← ht] at hp
  unfold tokV at hp
  have hf := fun x w => tokF1 t x w
  clear ht
  go_enter Tryd.func38, Tryd.ntmps38
  go_wp2_with fail
  refine hp.mono ?_
  rintro e w1 ⟨rfl, b1⟩
  have z1 : w.heap.size + 1 ≤ w1.heap.size := by simpa using b1.size
  have B1 : Below w.heap.size w w1 := ((Below.refl _ w).alloc (Nat.le_refl _) _).trans (b1.mono (by simp))
  go_wp2_with fail
  refine (needE (((h.alloc _).below b1).alloc _) ⟨#[110, 111, 100, 101]⟩ rfl).mono ?_
  rintro e w2 ⟨rfl, b2⟩
  exact ⟨rfl, rfl, (B1.alloc (by omega) _).trans (b2.mono (by simp; omega))⟩

set_option maxHeartbeats 4000000 in
theorem programE {w : World} {b : Nat} {ao : Option Addr} {cap len : Nat} (h : RdE w b ao cap len) :
    Calls Tryd.prog 26 #[.pointer (some ⟨b, 0, none⟩)] w fun e w' => e = upE 5 len ∧ Below w.heap.size w w' := by
  go_enter Tryd.func26, Tryd.ntmps26
  go_wp2_with fail
  refine (nodeE (h.alloc _)).mono ?_
  rintro e w1 ⟨rfl, b1⟩
  exact ⟨rfl, rfl, ((Below.refl _ w).alloc (Nat.le_refl _) _).trans (b1.mono (by simp))⟩

set_option maxHeartbeats 8000000 in
theorem readProgramE {w : World} {ao : Option Addr} {cap len : Nat} (hm : cap ≤ maxLen) :
    Calls Tryd.prog 10 #[.slice ao 0 cap, .int .i64 (len : Int)] w (RPost w (.err 5 len)) := by
  have hmf := makes
  obtain ⟨W1, hW1⟩ : ∃ W, W = w.alloc (.cells #[.slice none 0 0] 25 (0, 0)) := ⟨_, rfl⟩
  obtain ⟨W2, hW2⟩ : ∃ W, W = W1.alloc (.cells #[.int .i64 0, .int .i64 0] 27 (0, 0)) := ⟨_, rfl⟩
  obtain ⟨W3, hW3⟩ : ∃ W, W = W2.alloc (.cells #[.slice ao 0 cap, .int .i64 0, .int .i64 (len : Int), .int .i64 0] 68 (0, 0)) := ⟨_, rfl⟩
  have y1 : W1.heap.size = w.heap.size + 1 := by rw [hW1]; simp
  have y2 : W2.heap.size = w.heap.size + 1 + 1 := by rw [hW2]; simp [y1]
  have y3 : W3.heap.size = w.heap.size + 1 + 1 + 1 := by rw [hW3]; simp [y2]
  have bW : Below w.heap.size w W3 := by rw [hW3, hW2, hW1]; exact (((Below.refl _ w).alloc (Nat.le_refl _) _).alloc (by simp) _).alloc (by simp; omega) _
  have hP : W3.heap[w.heap.size]? = some (.cells #[.slice none 0 0] 25 (0, 0)) := by rw [hW3, hW2, hW1]; exact keep_alloc (keep_alloc (heap_new w _) _) _
  have hF : W3.heap[w.heap.size + 1]? = some (.cells #[.int .i64 0, .int .i64 0] 27 (0, 0)) := by rw [hW3, hW2, ← y1]; exact keep_alloc (heap_new W1 _) _
  have hB : RdE W3 (w.heap.size + 1 + 1) ao cap len := by unfold RdE; rw [hW3, ← y2]; exact heap_new W2 _
  go_enter_defers Tryd.func10, Tryd.ntmps10
  go_wp2_with fail
  rw [← hW1, ← hW2, ← hW3]
  refine (programE hB).mono ?_
  rintro r w4 ⟨rfl, b4⟩
  have z4 := b4.size
  have hP4 := (aside b4 (S := [])).keep hP (by omega) (by simp)
  have hF4 := (aside b4 (S := [])).keep hF (by omega) (by simp)
  have A4 : Below w.heap.size w w4 := bW.trans (b4.mono (by omega))
  unfold upE
  refine leaves_cons (f := 25) (args := #[.pointer (some ⟨w.heap.size, 0, none⟩), .pointer (some ⟨w.heap.size + 1, 0, none⟩)]) (by simp) (by simp [go_sem]) ?_
  refine (caught_up w.heap.size (w.heap.size + 1) 5 len _ _ _ _ hP4 hF4 (by omega)).mono ?_
  rintro e u' w5 ⟨rfl, rfl, hP5, hF5, a5⟩
  have p0 := cell_of hP5 0
  have f0 := cell_of hF5 0
  have f1 := cell_of hF5 1
  simp at p0 f0 f1
  have A5 : Below w.heap.size w w5 := A4.trans ((a5.mono (B' := w.heap.size) (by omega)).below (by simp))
  simp [Leaves, settle, results, Tryd.results10, go_sem, p0, f0, f1, upV]
  exact ⟨A5, rfl⟩

theorem program_none (len : Nat) : Ps.program ⟨[], len⟩ = .err 5 len := rfl

theorem scanR_len : ∀ (f : Nat) (l : List UInt8) (p : Nat), (Tk.scanR f l p).1.length ≤ f
  | 0, _, _ => by simp [Tk.scanR]
  | _ + 1, [], _ => by simp [Tk.scanR]
  | f + 1, c :: l, p => by
    unfold Tk.scanR
    split
    · simp
    · have := scanR_len f ((((c :: l).drop (Tk.read (c :: l)).text.length)).drop (Tk.blankLen false ((c :: l).drop (Tk.read (c :: l)).text.length))) (p + (Tk.read (c :: l)).text.length + Tk.blankLen false ((c :: l).drop (Tk.read (c :: l)).text.length))
      simp only []
      split
      · simp
      · simp only [List.length_cons]
        omega
theorem scan_len (l : List UInt8) : (Tk.scan l).1.length ≤ l.length := by
  unfold Tk.scan
  split
  · simp
  · exact scanR_len _ _ _

/-- what readProgram makes of what Scan tells -/
theorem readProgram_toks (hform : FormC) {I : Inp} (hL : I.L.length ≤ 1099511627776) {w : World} {ao : Option Addr} {g cap : Nat} (hc : I.L.length ≤ cap) (hm : cap ≤ maxLen) (hT : 0 < I.L.length → ao = some ⟨g, 0, none⟩ ∧ g < w.heap.size ∧ HoldsToks w g I.L) (hG : GlobT w) :
    Calls Tryd.prog 10 #[.slice ao I.L.length cap, .int .i64 (I.len : Int)] w (RPost w (Ps.program I)) := by
  by_cases h0 : 0 < I.L.length
  · obtain ⟨rfl, hg, ht⟩ := hT h0
    exact readProgram_any hform hL ht hg hc hm hG
  · obtain ⟨L, len⟩ := I
    have hL0 : L = [] := List.eq_nil_of_length_eq_zero (by simpa using h0)
    subst hL0
    rw [program_none]
    exact readProgramE hm

end Go.Proofs.YtmgaeapckfdbpaaDoor


/-
  DERIVED. THE WALK of Parse, whatever the text, over the contract of the reader's forms.
-/
namespace Go.Proofs.YtmgaeapckfdbpaaDoor
open Go.RowKit Go.IntWalk
set_option linter.unusedVariables false
set_option linter.unusedSimpArgs false
set_option maxRecDepth 100000

/-- how Parse ends: the nodes, or a fault -/
def PPost (w : World) (t : List UInt8) (r : Ending) (w' : World) : Prop :=
  Below w.heap.size w w' ∧ ∃ a n c, r = .returned (.tuple #[.agg #[.slice a n c], .agg #[.int .i64 (parseT t).2.1, .int .i64 (parseT t).2.2]]) ∧ HNds (fun i => w.heap.size ≤ i) w' (.slice a n c) (parseT t).1

set_option maxHeartbeats 8000000 in
theorem parse_any (hform : FormC) (s : ByteArray) (w : World) (hs : s.size ≤ 1000000) (hG : GlobT w) : Calls Tryd.prog 5 #[.string s] w (PPost w s.data.toList) := by
  have hsz : s.data.toList.length = s.size := Array.length_toList
  have hL : (Tk.scan s.data.toList).1.length ≤ 1099511627776 := by
    have := scan_len s.data.toList
    omega
  obtain ⟨W, hW⟩ : ∃ W, W = (w.alloc (.cells #[.slice none 0 0] 25 (0, 0))).alloc (.cells #[.int .i64 0, .int .i64 0] 27 (0, 0)) := ⟨_, rfl⟩
  have zW : W.heap.size = w.heap.size + 1 + 1 := by rw [hW]; simp
  have bW : Below w.heap.size w W := by rw [hW]; exact ((Below.refl _ w).alloc (Nat.le_refl _) _).alloc (by simp) _
  have hP : W.heap[w.heap.size]? = some (.cells #[.slice none 0 0] 25 (0, 0)) := by rw [hW]; exact keep_alloc (heap_new w _) _
  have hF : W.heap[w.heap.size + 1]? = some (.cells #[.int .i64 0, .int .i64 0] 27 (0, 0)) := by
    have := heap_new (w.alloc (.cells #[.slice none 0 0] 25 (0, 0))) (.cells #[.int .i64 0, .int .i64 0] 27 (0, 0))
    have e : (w.alloc (.cells #[.slice none 0 0] 25 (0, 0))).heap.size = w.heap.size + 1 := by simp
    rw [e] at this
    rw [hW]
    exact this
  go_enter Tryd.func5, Tryd.ntmps5
  go_wp2_with fail
  rw [← hW]
  clear hW
  refine (scan_any s _ (by omega)).mono ?_
  rintro r w1 ⟨v, rfl, hown, b1⟩
  obtain ⟨L, hLd⟩ : ∃ L, L = (Tk.scan s.data.toList).1 := ⟨_, rfl⟩
  obtain ⟨c, hcd⟩ : ∃ c, c = (Tk.scan s.data.toList).2.1 := ⟨_, rfl⟩
  obtain ⟨a, had⟩ : ∃ a, a = (Tk.scan s.data.toList).2.2 := ⟨_, rfl⟩
  rw [← hLd] at hown hL
  rw [← hcd, ← had]
  obtain ⟨ao, g, cap, rfl, hc1, hc2, hT⟩ := toks_slice hown
  have hpT : Hid (parseT s.data.toList = if c = 0 then match Ps.program ⟨L, s.data.toList.length⟩ with | .ok l _ => (l, 0, 0) | .err c a => ([], (c : Int), (a : Int)) else ([], c, a)) := by
    show parseT s.data.toList = _
    unfold parseT
    rw [hLd, hcd, had]
    rfl
  clear hLd hcd had hown
  have z1 := b1.size
  have B1 : Below w.heap.size w w1 := bW.trans (b1.mono (by omega))
  have hP1 := (aside b1 (S := [])).keep hP (by omega) (by simp)
  have hF1 := (aside b1 (S := [])).keep hF (by omega) (by simp)
  have cm := hc2
  unfold maxLen at cm
  clear hP hF b1
  by_cases hc0 : c = 0
  · have hk : (c == 0) = true := beq_iff_eq.2 hc0
    have HP := hpT.out
    rw [if_pos hc0] at HP
    have HPH := hide HP
    clear HP
    subst hc0
    go_wp2_with fail
    have hT2 : 0 < L.length → ao = some ⟨g, 0, none⟩ ∧ g < (w1.alloc (.cells #[.int .i64 0, .int .i64 a] 27 (0, 0))).heap.size ∧ HoldsToks (w1.alloc (.cells #[.int .i64 0, .int .i64 a] 27 (0, 0))) g L := fun h0 => by
      obtain ⟨e1, _, e3, e4⟩ := hT h0
      exact ⟨e1, by simp; omega, e4.keep (keepB _ e3)⟩
    have hcall := readProgram_toks hform (I := ⟨L, s.data.toList.length⟩) hL hc1 hc2 hT2 (hG.keep (Nat.le_trans B1.size (by simp)) ((Below.heap_alloc _ _ _ (Nat.lt_of_lt_of_le hG.1 B1.size)).trans (B1.block 1 hG.1)))
    rw [hsz] at hcall HPH
    refine hcall.mono ?_
    rintro r w3 ⟨b3, hres⟩
    have z3 : w1.heap.size + 1 ≤ w3.heap.size := by simpa using b3.size
    have hP3 := (aside b3 (S := [])).keep (keep_alloc hP1 _) (by simp; omega) (by simp)
    have hF3 := (aside b3 (S := [])).keep (keep_alloc hF1 _) (by simp; omega) (by simp)
    have B3 : Below w.heap.size w w3 := (B1.alloc (by omega) _).trans (b3.mono (by simp; omega))
    have p0 := cell_of hP3 0
    have f0 := cell_of hF3 0
    have f1 := cell_of hF3 1
    have fP := fun o => free_of hP3 o
    have fF := fun o => free_of hF3 o
    simp at p0 f0 f1
    clear hcall hT hT2 hP1 hF1 b3
    cases hp : Ps.program ⟨L, s.size⟩ with
    | ok l n =>
      rw [hp] at hres
      obtain ⟨a', n', c', rfl, hN⟩ := hres
      have HE : Hid (parseT s.data.toList = (l, 0, 0)) := by
        show parseT s.data.toList = _
        rw [HPH.out, hp]
      clear hp HPH hpT
      have hN2 := (nodes_of (hN.wide' (ok' := fun i => w.heap.size + 1 < i) (fun i hi _ => by simp at hi; omega)))
      go_wp2
      refine bodyPost_ret (v := .tuple #[.agg #[.slice a' n' c'], .agg #[.int .i64 0, .int .i64 0]]) (by simp [results, Tryd.results5, go_sem, p0, f0, f1]) rfl ?_
      refine ⟨((B3.setCell (p := ⟨w.heap.size, 0, none⟩) (Nat.le_refl _) _).setCell (p := ⟨w.heap.size + 1, 0, none⟩) (Nat.le_succ _) _).setCell (p := ⟨w.heap.size + 1, 1, none⟩) (Nat.le_succ _) _, a', n', c', by rw [HE.out], ?_⟩
      rw [HE.out]
      exact nodes_row ((((hN2.set (p := ⟨w.heap.size, 0, none⟩) (by simp) _).set (p := ⟨w.heap.size + 1, 0, none⟩) (by simp) _).set (p := ⟨w.heap.size + 1, 1, none⟩) (by simp) _).wide (fun i hi _ => by omega))
    | err c' a' =>
      rw [hp] at hres
      obtain rfl : r = _ := hres
      have HE : Hid (parseT s.data.toList = ([], (c' : Int), (a' : Int))) := by
        show parseT s.data.toList = _
        rw [HPH.out, hp]
      clear hp HPH hpT
      go_wp2
      refine bodyPost_ret (v := .tuple #[.agg #[.slice none 0 0], .agg #[.int .i64 (c' : Int), .int .i64 (a' : Int)]]) (by simp [results, Tryd.results5, go_sem, p0, f0, f1]) rfl ?_
      refine ⟨((B3.setCell (p := ⟨w.heap.size, 0, none⟩) (Nat.le_refl _) _).setCell (p := ⟨w.heap.size + 1, 0, none⟩) (Nat.le_succ _) _).setCell (p := ⟨w.heap.size + 1, 1, none⟩) (Nat.le_succ _) _, none, 0, 0, by rw [HE.out], ?_⟩
      rw [HE.out]
      exact nodes_row HRow.nil
  · have hk : (c == 0) = false := beq_eq_false_iff_ne.2 hc0
    have HE : Hid (parseT s.data.toList = ([], c, a)) := by
      show parseT s.data.toList = _
      rw [hpT.out, if_neg hc0]
    clear hpT hT
    have p0 := cell_of hP1 0
    have f0 := cell_of hF1 0
    have f1 := cell_of hF1 1
    have fP := fun o => free_of hP1 o
    have fF := fun o => free_of hF1 o
    simp at p0 f0 f1
    have zp : w.heap.size < w1.heap.size := by omega
    have zf : w.heap.size + 1 < w1.heap.size := by omega
    go_wp2
    go_region
    all_goals
      go_wp2
      refine bodyPost_ret (v := .tuple #[.agg #[.slice none 0 0], .agg #[.int .i64 c, .int .i64 a]]) (by simp [results, Tryd.results5, go_sem, p0, f0, f1, zp, zf]) rfl ?_
      refine ⟨((((B1.setCell (p := ⟨w.heap.size, 0, none⟩) (Nat.le_refl _) _).setCell (p := ⟨w.heap.size + 1, 0, none⟩) (Nat.le_succ _) _).setCell (p := ⟨w.heap.size + 1, 1, none⟩) (Nat.le_succ _) _).alloc (by simp [World.setCell]; omega) _).drew, none, 0, 0, by rw [HE.out], ?_⟩
      rw [HE.out]
      exact nodes_row HRow.nil

end Go.Proofs.YtmgaeapckfdbpaaDoor
