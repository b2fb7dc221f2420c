/-
  DERIVED. THE WALKS of the reader's small functions: peek, sees, step, take, need, name.
-/
import Derived.Test.YtplofgkofkjhdaaGreatDoorToks
import Derived.Deep.QuietTactic
import Derived.BigQuiet
import Derived.WalkSmall
namespace Go.Proofs.YtplofgkofkjhdaaGreatDoor
open Go.RowKit Go.IntWalk
set_option linter.unusedVariables false
set_option linter.unusedSimpArgs false
set_option maxRecDepth 100000

/-- A reader lies in block b: its tokens in block g, of which nx have been read, op things are open. -/
structure Rd (w : World) (b g cap : Nat) (L : List Tk.Tok) (len nx op : Nat) : Prop where
  here : w.heap[b]? = some (.cells #[.slice (some ⟨g, 0, none⟩) L.length cap, .int .i64 nx, .int .i64 len, .int .i64 op] 78 (0, 0))
  toks : HoldsToks w g L
  apart : b ≠ g
  gb : g < w.heap.size
  le : nx ≤ L.length
  lc : L.length ≤ cap
  cm : cap ≤ maxLen

/-- the token that is read next -/
def peekT (L : List Tk.Tok) (len nx : Nat) : Tk.Tok := if h : nx < L.length then L[nx] else ⟨0, len, [], 0⟩
def tokV (t : Tk.Tok) : Value := .agg #[.int .i64 t.kind, .int .i64 (t.place : Int), .string (str t.text), .int .i64 t.n]

theorem Rd.cells {w : World} {b g cap : Nat} {L : List Tk.Tok} {len nx op : Nat} (h : Rd w b g cap L len nx op) :
    w.cell? ⟨b, 0, none⟩ = some (.slice (some ⟨g, 0, none⟩) L.length cap) ∧ w.cell? ⟨b, 1, none⟩ = some (.int .i64 nx) ∧ w.cell? ⟨b, 2, none⟩ = some (.int .i64 len) ∧ w.cell? ⟨b, 3, none⟩ = some (.int .i64 op) ∧ b < w.heap.size := by
  have h1 := h.here
  refine ⟨?_, ?_, ?_, ?_, (Array.getElem?_eq_some_iff.1 h1).1⟩ <;> simp [World.cell?, h1]

/-- Of what lay below B nothing has turned but the blocks S. -/
structure Aside (S : List Nat) (B : Nat) (w w' : World) : Prop where
  os : w'.os = w.os
  tape : w'.tape = w.tape
  output : w'.output = w.output
  size : w.heap.size ≤ w'.heap.size
  block : ∀ k, k < B → k ∉ S → w'.heap[k]? = w.heap[k]?

theorem heap_new (w : World) (o : Obj) : (w.alloc o).heap[w.heap.size]? = some o := by
  show (w.heap.push o)[w.heap.size]? = _
  simp

theorem aside {S : List Nat} {B : Nat} {w w' : World} (h : Below B w w') : Aside S B w w' := ⟨h.os, h.tape, h.output, h.size, fun k hk _ => h.block k hk⟩
theorem Aside.refl {S : List Nat} {B : Nat} (w : World) : Aside S B w w := ⟨rfl, rfl, rfl, Nat.le_refl _, fun _ _ _ => rfl⟩
theorem Aside.trans {S : List Nat} {B B' : Nat} {a b c : World} (h : Aside S B a b) (k : Aside S B' b c) (hB : B ≤ B') : Aside S B a c :=
  ⟨k.os.trans h.os, k.tape.trans h.tape, k.output.trans h.output, Nat.le_trans h.size k.size, fun i hi hs => (k.block i (Nat.lt_of_lt_of_le hi hB) hs).trans (h.block i hi hs)⟩
theorem Aside.wide {S S' : List Nat} {B : Nat} {w w' : World} (h : Aside S B w w') (hs : ∀ k, k < B → k ∉ S' → k ∉ S) : Aside S' B w w' := ⟨h.os, h.tape, h.output, h.size, fun k hk hn => h.block k hk (hs k hk hn)⟩
theorem Aside.below {S : List Nat} {B : Nat} {w w' : World} (h : Aside S B w w') (hs : ∀ k, k ∈ S → B ≤ k) : Below B w w' :=
  ⟨h.os, h.tape, h.output, h.size, fun k hk => h.block k hk fun hm => absurd (hs k hm) (by omega)⟩

theorem HoldsToks.keep {w w' : World} {g : Nat} {L : List Tk.Tok} (h : HoldsToks w g L) (hg : w'.heap[g]? = w.heap[g]?) : HoldsToks w' g L := by
  intro i hi
  have hc : ∀ o, w'.cell? ⟨g, o, none⟩ = w.cell? ⟨g, o, none⟩ := fun o => World.cell?_of_block (w := w) hg
  rw [hc, hc, hc, hc]
  exact h i hi

theorem Rd.below {w w' : World} {b g cap : Nat} {L : List Tk.Tok} {len nx op : Nat} (h : Rd w b g cap L len nx op) (hb : Below w.heap.size w w') : Rd w' b g cap L len nx op :=
  ⟨(hb.block b h.cells.2.2.2.2).trans h.here, h.toks.keep (hb.block g h.gb), h.apart, Nat.lt_of_lt_of_le h.gb hb.size, h.le, h.lc, h.cm⟩

set_option maxHeartbeats 2000000 in
theorem peek_any {w : World} {b g cap : Nat} {L : List Tk.Tok} {len nx op : Nat} (h : Rd w b g cap L len nx op) :
    Calls Tryz.prog 63 #[.pointer (some ⟨b, 0, none⟩)] w fun e w' => e = .returned (tokV (peekT L len nx)) ∧ Below w.heap.size w w' := by
  obtain ⟨c0, c1, c2, c3, hb⟩ := h.cells
  have hle := h.le
  have hcm := h.cm
  have hlc := h.lc
  unfold maxLen at hcm
  have hgb := h.gb
  by_cases hn : nx < L.length
  · have hq : ((nx : Int) == (L.length : Int)) = false := by rw [beq_eq_false_iff_ne]; omega
    obtain ⟨t0, t1, t2, t3⟩ := h.toks nx hn
    have e : peekT L len nx = L[nx] := by simp [peekT, hn]
    rw [e]
    clear e
    go_enter Tryz.func63, Tryz.ntmps63
    go_wp2
    go_region
    go_wp2
    go_region
    go_wp2
    exact bodyPost_ret (v := tokV L[nx]) (by simp [tokV, results, Tryz.results63, go_sem]) rfl ⟨rfl, ((Below.refl _ w).alloc (Nat.le_refl _) _).drew.drew⟩
  · have hq : ((nx : Int) == (L.length : Int)) = true := by rw [beq_iff_eq]; omega
    have e : peekT L len nx = ⟨0, len, [], 0⟩ := by simp [peekT, hn]
    rw [e]
    clear e
    go_enter Tryz.func63, Tryz.ntmps63
    go_wp2
    go_region
    go_wp2
    exact bodyPost_ret (v := tokV ⟨0, len, [], 0⟩) (by simp [tokV, str, results, Tryz.results63, go_sem]) rfl ⟨rfl, ((Below.refl _ w).alloc (Nat.le_refl _) _).drew⟩


theorem tok_field (a b c d : Value) (w : World) (ha : a.cells = #[a]) (hb : b.cells = #[b]) (hc : c.cells = #[c]) (hd : d.cells = #[d]) : (Instr.field 71 (.agg #[a, b, c, d]) 2).run Tryz.prog w = .ok c w := by
  kernel_rfl

theorem tok_field2 (t : Tk.Tok) (x : ByteArray) (w : World) : (Instr.field 71 (.agg #[.int .i64 t.kind, .int .i64 (t.place : Int), .string x, .int .i64 t.n]) 2).run Tryz.prog w = .ok (.string x) w := by
  kernel_rfl

set_option maxHeartbeats 1000000 in
theorem sees_any {w : World} {b g cap : Nat} {L : List Tk.Tok} {len nx op : Nat} (h : Rd w b g cap L len nx op) (s : ByteArray) :
    Calls Tryz.prog 64 #[.pointer (some ⟨b, 0, none⟩), .string s] w fun e w' => e = .returned (.bool ((peekT L len nx).text == s.data.toList)) ∧ Below w.heap.size w w' := by
  have hp := @peek_any _ _ _ _ _ _ _ _ h
  obtain ⟨t, ht⟩ : ∃ t, t = peekT L len nx := ⟨_, rfl⟩
  rw [← ht] at hp ⊢
  unfold tokV at hp
  clear h ht
  have hf := fun x w => tok_field2 t x w
  go_enter Tryz.func64, Tryz.ntmps64
  go_wp2_with (go_at_call 63; refine hp.mono ?_; rintro e w' ⟨rfl, hb⟩)
  go_ret
  refine ⟨ret_bool ?_, hb⟩
  simp [str, Lib.toList_data]

theorem Aside.setCell {S : List Nat} {B : Nat} {w : World} {p : Addr} (hp : p.block ∈ S) (u : Value) : Aside S B w (w.setCell p u) :=
  ⟨rfl, rfl, rfl, by simp [World.setCell], fun k _ hs => Below.heap_setCell _ _ _ _ (fun e => hs (e ▸ hp))⟩

theorem Rd.moved {w : World} {b g cap : Nat} {L : List Tk.Tok} {len nx op : Nat} (h : Rd w b g cap L len nx op) (hn : nx < L.length) :
    Rd (w.setCell ⟨b, 1, none⟩ (.int .i64 ((nx : Int) + 1))) b g cap L len (nx + 1) op := by
  refine ⟨?_, h.toks.keep (Below.heap_setCell _ _ _ _ (fun e => h.apart e.symm)), h.apart, by simpa [World.setCell] using h.gb, hn, h.lc, h.cm⟩
  simp [World.setCell, Array.getElem?_modify, h.here]

set_option maxHeartbeats 1000000 in
theorem step_any {w : World} {b g cap : Nat} {L : List Tk.Tok} {len nx op : Nat} (h : Rd w b g cap L len nx op) (hn : nx < L.length) :
    Calls Tryz.prog 93 #[.pointer (some ⟨b, 0, none⟩)] w fun e w' => e = .returned (.tuple #[]) ∧ Rd w' b g cap L len (nx + 1) op ∧ Aside [b] w.heap.size w w' := by
  obtain ⟨c0, c1, c2, c3, hb⟩ := h.cells
  have hle := h.le
  have hcm := h.cm
  have hlc := h.lc
  have hz : w.frozen? ⟨b, 1, none⟩ = false := by simp [World.frozen?, h.here]
  unfold maxLen at hcm
  go_enter Tryz.func93, Tryz.ntmps93
  go_wp2
  go_end0
  exact ⟨rfl, h.moved hn, Aside.setCell (by simp) _⟩

set_option maxHeartbeats 1000000 in
theorem take_yes {w : World} {b g cap : Nat} {L : List Tk.Tok} {len nx op : Nat} (h : Rd w b g cap L len nx op) (s : ByteArray) (hs : ((peekT L len nx).text == s.data.toList) = true) (hn : nx < L.length) :
    Calls Tryz.prog 80 #[.pointer (some ⟨b, 0, none⟩), .string s] w fun e w' => e = .returned (.bool true) ∧ Rd w' b g cap L len (nx + 1) op ∧ Aside [b] w.heap.size w w' := by
  have hp := sees_any h s
  rw [hs] at hp
  have hnot : ∀ (x : Bool) (w : World), (Op.unary .not (.bool x)).run Tryz.prog w = .ok (.bool (!x)) w := fun _ _ => rfl
  go_enter Tryz.func80, Tryz.ntmps80
  go_wp2_with (go_at_call 64; refine hp.mono ?_; rintro e w1 ⟨rfl, hb⟩)
  refine (step_any (h.below hb) hn).mono ?_
  rintro e w2 ⟨rfl, h2, ha⟩
  go_wp2
  go_ret
  exact ⟨rfl, h2, (aside hb).trans ha hb.size⟩

set_option maxHeartbeats 1000000 in
theorem take_no {w : World} {b g cap : Nat} {L : List Tk.Tok} {len nx op : Nat} (h : Rd w b g cap L len nx op) (s : ByteArray) (hs : ((peekT L len nx).text == s.data.toList) = false) :
    Calls Tryz.prog 80 #[.pointer (some ⟨b, 0, none⟩), .string s] w fun e w' => e = .returned (.bool false) ∧ Below w.heap.size w w' := by
  have hp := sees_any h s
  rw [hs] at hp
  go_enter Tryz.func80, Tryz.ntmps80
  go_wp2_with (go_at_call 64; refine hp.mono ?_; rintro e w1 ⟨rfl, hb⟩)
  go_ret
  exact ⟨rfl, hb⟩

set_option maxHeartbeats 1000000 in
theorem need_yes {w : World} {b g cap : Nat} {L : List Tk.Tok} {len nx op : Nat} (h : Rd w b g cap L len nx op) (s : ByteArray) (hs : ((peekT L len nx).text == s.data.toList) = true) (hn : nx < L.length) :
    Calls Tryz.prog 78 #[.pointer (some ⟨b, 0, none⟩), .string s] w fun e w' => e = .returned (.tuple #[]) ∧ Rd w' b g cap L len (nx + 1) op ∧ Aside [b] w.heap.size w w' := by
  have hp := take_yes h s hs hn
  go_enter Tryz.func78, Tryz.ntmps78
  go_wp2_with (go_at_call 80; refine hp.mono ?_; rintro e w1 ⟨rfl, h1, ha⟩)
  go_end0
  exact ⟨rfl, h1, ha⟩

set_option maxHeartbeats 1000000 in
theorem name_yes {w : World} {b g cap : Nat} {L : List Tk.Tok} {len nx op : Nat} (h : Rd w b g cap L len nx op) (hk : (peekT L len nx).kind = 2) (hn : nx < L.length) :
    Calls Tryz.prog 79 #[.pointer (some ⟨b, 0, none⟩)] w fun e w' => e = .returned (.string (str (peekT L len nx).text)) ∧ Rd w' b g cap L len (nx + 1) op ∧ Aside [b] w.heap.size w w' := by
  have hp := @peek_any _ _ _ _ _ _ _ _ h
  obtain ⟨t, ht⟩ : ∃ t, t = peekT L len nx := ⟨_, rfl⟩
  rw [← ht] at hp hk ⊢
  unfold tokV at hp
  rw [hk] at hp
  clear ht
  go_enter Tryz.func79, Tryz.ntmps79
  go_wp2_with (go_at_call 63; refine hp.mono ?_; rintro e w1 ⟨rfl, hb⟩)
  refine (step_any ((h.below hb).below ((Below.refl _ w1).alloc (Nat.le_refl _) _)) hn).mono ?_
  rintro e w2 ⟨rfl, h2, ha⟩
  have hzb := h.cells.2.2.2.2
  have hs1 := hb.size
  have hbl : w2.heap[w1.heap.size]? = some (.cells #[.int .i64 2, .int .i64 (t.place : Int), .string (str t.text), .int .i64 t.n] 71 (0, 0)) := by
    rw [ha.block w1.heap.size (by simp) (by simp; omega)]
    exact heap_new _ _
  have hcl : w2.cell? ⟨w1.heap.size, 2, none⟩ = some (.string (str t.text)) := by simp [World.cell?, hbl]
  go_wp2
  go_ret
  exact ⟨rfl, h2, (aside hb).trans ((aside ((Below.refl w1.heap.size w1).alloc (Nat.le_refl _) _)).trans ha (by simp)) hs1⟩

end Go.Proofs.YtplofgkofkjhdaaGreatDoor
