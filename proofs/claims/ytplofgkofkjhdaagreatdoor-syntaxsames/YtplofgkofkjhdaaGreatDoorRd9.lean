/-
  DERIVED. THE WALKS of the reader's node and program over the text of syntaxBegun.
-/
import Derived.Test.YtplofgkofkjhdaaGreatDoorRd8
namespace Go.Proofs.YtplofgkofkjhdaaGreatDoor
open Go.RowKit Go.IntWalk
set_option linter.unusedVariables false
set_option linter.unusedSimpArgs false
set_option maxRecDepth 100000

/-- the tokens of the text of syntaxBegun -/
def begunL : List Tk.Tok := [⟨1, 0, [110, 111, 100, 101], 0⟩, ⟨2, 5, [109, 97, 105, 110], 0⟩, ⟨4, 9, [40], 0⟩, ⟨2, 10, [120], 0⟩, ⟨4, 11, [58], 0⟩, ⟨1, 13, [105, 110, 116], 0⟩, ⟨4, 16, [41], 0⟩, ⟨4, 18, [45, 62], 0⟩, ⟨4, 21, [40], 0⟩, ⟨2, 22, [121], 0⟩, ⟨4, 23, [58], 0⟩, ⟨1, 25, [105, 110, 116], 0⟩, ⟨4, 28, [41], 0⟩, ⟨4, 30, [123], 0⟩, ⟨2, 32, [121], 0⟩, ⟨4, 34, [61], 0⟩, ⟨2, 36, [120], 0⟩, ⟨4, 38, [45], 0⟩, ⟨3, 40, [49], 1⟩, ⟨4, 42, [45], 0⟩, ⟨3, 44, [50], 2⟩, ⟨4, 45, [59], 0⟩, ⟨4, 47, [125], 0⟩]
def begunS : List UInt8 := [110, 111, 100, 101, 32, 109, 97, 105, 110, 40, 120, 58, 32, 105, 110, 116, 41, 32, 45, 62, 32, 40, 121, 58, 32, 105, 110, 116, 41, 32, 123, 32, 121, 32, 61, 32, 120, 32, 45, 32, 49, 32, 45, 32, 50, 59, 32, 125]
theorem scan_begun : Tk.scan begunS = (begunL, 0, 0) := by rfl

/-- x - 1 - 2 -/
def begunX : Ex := .mk 5 2 0 ⟨#[]⟩ [] [.mk 5 2 0 ⟨#[]⟩ [] [.mk 3 0 0 (str [120]) [] [], .mk 1 0 1 ⟨#[]⟩ [] []], .mk 1 0 2 ⟨#[]⟩ [] []]

theorem begun_product {b g cap op : Nat} : Gives 118 b g cap begunL 48 op 16 17 (.mk 3 0 0 (str [120]) [] []) ∧ Gives 118 b g cap begunL 48 op 18 19 (.mk 1 0 1 ⟨#[]⟩ [] []) ∧ Gives 118 b g cap begunL 48 op 20 21 (.mk 1 0 2 ⟨#[]⟩ [] []) :=
  ⟨product_ok (ahead_ok (unit_name (nx := 16) rfl (by decide)) rfl rfl rfl) (.stop rfl), product_ok (ahead_ok (unit_num (nx := 18) rfl (by decide)) rfl rfl rfl) (.stop rfl), product_ok (ahead_ok (unit_num (nx := 20) rfl (by decide)) rfl rfl rfl) (.stop rfl)⟩

theorem begun_whole {b g cap op : Nat} : Gives 102 b g cap begunL 48 op 16 21 begunX := by
  have hp := @begun_product b g cap op
  have hs : Gives 117 b g cap begunL 48 op 16 21 begunX := sum_ok hp.1 (.step (n' := 19) (k := 2) rfl (by decide) (by decide) hp.2.1 (.step (n' := 21) (k := 2) rfl (by decide) (by decide) hp.2.2 (.stop rfl)))
  exact whole_ok (expr_ok (conjunction_ok (comparison_one hs rfl) (.stop rfl)) (.stop rfl)) (by decide)

set_option maxHeartbeats 16000000 in
theorem node_begun {w : World} {b g cap op : Nat} (h : Rd w b g cap begunL 48 0 op) :
    Calls Tryz.prog 62 #[.pointer (some ⟨b, 0, none⟩)] w fun r w' => ∃ (a3 a4 : Option Addr) (c3 c4 q cq bk : Nat) (y : ExV),
      r = .returned (.agg #[.string (str [109, 97, 105, 110]), .int .i64 0, .slice none 0 0, .slice a3 1 c3, .slice a4 1 c4, .slice none 0 0, .slice (some ⟨q, 0, none⟩) 1 cq]) ∧ 1 ≤ cq ∧ w.heap.size ≤ q ∧ q < w'.heap.size ∧ w.heap.size ≤ bk ∧
      w'.cell? ⟨q, 4, none⟩ = some (.slice (some ⟨bk, 0, none⟩) 1 1) ∧
      w'.heap[bk]? = some (.cells #[.int .i64 y.op, .int .i64 y.k, .int .i64 y.n, .string y.name, .slice y.aS y.nS y.cS, .slice y.aL y.nL y.cL] 45 (0, 0)) ∧ y.k = 2 ∧ Rd w' b g cap begunL 48 23 op ∧ Aside [b] w.heap.size w w' := by
  have hb := h.bb
  have hg := h.gb
  have hf := tokG1
  have hmf := makes
  go_enter Tryz.func62, Tryz.ntmps62
  go_wp2_with fail
  refine (peek_any (h.alloc _)).mono ?_
  unfold tokV
  rintro r w1 ⟨rfl, b1⟩
  have ep : peekT begunL 48 0 = ⟨1, 0, [110, 111, 100, 101], 0⟩ := rfl
  rw [ep]
  clear ep
  have h1 := (h.alloc _).below b1
  have z1 : w.heap.size + 1 ≤ w1.heap.size := by simpa using b1.size
  have hA1 := (aside b1 (S := [])).keep (heap_new w _) (by simp) (by simp)
  have A1 := ((Aside.refl (S := [b]) (B := w.heap.size) w).alloc (Nat.le_refl _) _).trans (aside b1) (by simp)
  clear b1
  go_wp2_with fail
  refine (need_yes (h1.alloc _) ⟨#[110, 111, 100, 101]⟩ rfl (by decide)).mono ?_
  rintro r w2 ⟨rfl, h2, a2⟩
  have z2 : w1.heap.size + 1 ≤ w2.heap.size := by simpa using a2.size
  have hA2 := a2.keep (keep_alloc hA1 _) (by simp; omega) (by simp; omega)
  have hN2 := a2.keep (heap_new w1 _) (by simp) (by simp; omega)
  have A2 := (A1.alloc (by omega) _).trans a2 (by simp; omega)
  clear a2 hA1 A1
  go_wp2_with fail
  refine (name_yes h2 rfl (by decide)).mono ?_
  rintro r w3 ⟨rfl, h3, a3⟩
  have z3 : w2.heap.size ≤ w3.heap.size := by have := a3.size; (try simp [World.setCell] at this); omega
  have hA3 := a3.keep (hA2) (by (try simp [World.setCell]); omega) (by simp; omega)
  have hN3 := a3.keep (hN2) (by (try simp [World.setCell]); omega) (by simp; omega)
  have A3 := (A2).trans a3 (by (try simp [World.setCell]); omega)
  have en : str (peekT begunL 48 (0 + 1)).text = str [109, 97, 105, 110] := rfl
  rw [en]
  clear en a3 hA2 hN2 A2
  have cn0 := cell_of hN3 0
  have fn0 := free_of hN3 0
  simp at cn0
  go_wp2_with fail
  refine (take_no (h3.set (by simp; omega) (by simp; omega) _) ⟨#[60]⟩ rfl).mono ?_
  rintro r w4 ⟨rfl, b4⟩
  have h4 := (h3.set (p := ⟨w1.heap.size, 0, none⟩) (by simp; omega) (by simp; omega) _).below b4
  have z4 : w3.heap.size ≤ w4.heap.size := by have := b4.size; (try simp [World.setCell] at this); omega
  have hA4 := (aside b4 (S := [])).keep (keep_set hA3 (by simp; omega) _) (by (try simp [World.setCell]); omega) (by simp)
  have hN4 := (aside b4 (S := [])).keep (set_in hN3 0 _) (by (try simp [World.setCell]); omega) (by simp)
  have A4 := (A3.set (p := ⟨w1.heap.size, 0, none⟩) (by simp; omega) _).trans (aside b4) (by (try simp [World.setCell]); omega)
  simp at hN4
  clear b4 hA3 hN3 A3 cn0 fn0
  go_wp2_with fail
  refine (need_yes h4 ⟨#[40]⟩ rfl (by decide)).mono ?_
  rintro r w5 ⟨rfl, h5, a5⟩
  have z5 : w4.heap.size ≤ w5.heap.size := by have := a5.size; (try simp [World.setCell] at this); omega
  have hA5 := a5.keep (hA4) (by (try simp [World.setCell]); omega) (by simp; omega)
  have hN5 := a5.keep (hN4) (by (try simp [World.setCell]); omega) (by simp; omega)
  have A5 := (A4).trans a5 (by (try simp [World.setCell]); omega)
  clear a5 hA4 hN4 A4
  go_wp2_with fail
  refine (take_no h5 ⟨#[41]⟩ rfl).mono ?_
  rintro r w6 ⟨rfl, b6⟩
  have h6 := h5.below b6
  have z6 := b6.size
  have hA6 := (aside b6 (S := [])).keep hA5 (lt_of hA5) (by simp)
  have hN6 := (aside b6 (S := [])).keep hN5 (lt_of hN5) (by simp)
  have A6 := A5.trans (aside b6) (by omega)
  clear b6 hA5 hN5 A5
  go_wp2_with fail
  refine (rowDecl_one h6 ⟨by decide, rfl, rfl, rfl, rfl⟩ rfl).mono ?_
  rintro r w7 ⟨ao3, c3, rfl, h7, a7⟩
  have z7 : w6.heap.size ≤ w7.heap.size := by have := a7.size; (try simp [World.setCell] at this); omega
  have hA7 := a7.keep (hA6) (by (try simp [World.setCell]); omega) (by simp; omega)
  have hN7 := a7.keep (hN6) (by (try simp [World.setCell]); omega) (by simp; omega)
  have A7 := (A6).trans a7 (by (try simp [World.setCell]); omega)
  clear a7 hA6 hN6 A6
  have cn3 := cell_of hN7 3
  have fn3 := free_of hN7 3
  simp at cn3
  go_wp2_with fail
  refine (need_yes (h7.set (by simp; omega) (by simp; omega) _) ⟨#[41]⟩ rfl (by decide)).mono ?_
  rintro r w8 ⟨rfl, h8, a8⟩
  have z8 : w7.heap.size ≤ w8.heap.size := by have := a8.size; (try simp [World.setCell] at this); omega
  have hA8 := a8.keep (keep_set hA7 (by simp; omega) _) (by (try simp [World.setCell]); omega) (by simp; omega)
  have hN8 := a8.keep (set_in hN7 3 _) (by (try simp [World.setCell]); omega) (by simp; omega)
  have A8 := (A7.set (p := ⟨w1.heap.size, 3, none⟩) (by simp; omega) _).trans a8 (by (try simp [World.setCell]); omega)
  simp at hN8
  clear a8 hA7 hN7 A7 cn3 fn3
  go_wp2_with fail
  refine (need_yes h8 ⟨#[45, 62]⟩ rfl (by decide)).mono ?_
  rintro r w9 ⟨rfl, h9, a9⟩
  have z9 : w8.heap.size ≤ w9.heap.size := by have := a9.size; (try simp [World.setCell] at this); omega
  have hA9 := a9.keep (hA8) (by (try simp [World.setCell]); omega) (by simp; omega)
  have hN9 := a9.keep (hN8) (by (try simp [World.setCell]); omega) (by simp; omega)
  have A9 := (A8).trans a9 (by (try simp [World.setCell]); omega)
  clear a9 hA8 hN8 A8
  go_wp2_with fail
  refine (need_yes h9 ⟨#[40]⟩ rfl (by decide)).mono ?_
  rintro r w10 ⟨rfl, h10, a10⟩
  have z10 : w9.heap.size ≤ w10.heap.size := by have := a10.size; (try simp [World.setCell] at this); omega
  have hA10 := a10.keep (hA9) (by (try simp [World.setCell]); omega) (by simp; omega)
  have hN10 := a10.keep (hN9) (by (try simp [World.setCell]); omega) (by simp; omega)
  have A10 := (A9).trans a10 (by (try simp [World.setCell]); omega)
  clear a10 hA9 hN9 A9
  go_wp2_with fail
  refine (rowDecl_one h10 ⟨by decide, rfl, rfl, rfl, rfl⟩ rfl).mono ?_
  rintro r w11 ⟨ao4, c4, rfl, h11, a11⟩
  have z11 : w10.heap.size ≤ w11.heap.size := by have := a11.size; (try simp [World.setCell] at this); omega
  have hA11 := a11.keep (hA10) (by (try simp [World.setCell]); omega) (by simp; omega)
  have hN11 := a11.keep (hN10) (by (try simp [World.setCell]); omega) (by simp; omega)
  have A11 := (A10).trans a11 (by (try simp [World.setCell]); omega)
  clear a11 hA10 hN10 A10
  have cn4 := cell_of hN11 4
  have fn4 := free_of hN11 4
  simp at cn4
  go_wp2_with fail
  refine (need_yes (h11.set (by simp; omega) (by simp; omega) _) ⟨#[41]⟩ rfl (by decide)).mono ?_
  rintro r w12 ⟨rfl, h12, a12⟩
  have z12 : w11.heap.size ≤ w12.heap.size := by have := a12.size; (try simp [World.setCell] at this); omega
  have hA12 := a12.keep (keep_set hA11 (by simp; omega) _) (by (try simp [World.setCell]); omega) (by simp; omega)
  have hN12 := a12.keep (set_in hN11 4 _) (by (try simp [World.setCell]); omega) (by simp; omega)
  have A12 := (A11.set (p := ⟨w1.heap.size, 4, none⟩) (by simp; omega) _).trans a12 (by (try simp [World.setCell]); omega)
  simp at hN12
  clear a12 hA11 hN11 A11 cn4 fn4
  go_wp2_with fail
  refine (need_yes h12 ⟨#[123]⟩ rfl (by decide)).mono ?_
  rintro r w13 ⟨rfl, h13, a13⟩
  have z13 : w12.heap.size ≤ w13.heap.size := by have := a13.size; (try simp [World.setCell] at this); omega
  have hA13 := a13.keep (hA12) (by (try simp [World.setCell]); omega) (by simp; omega)
  have hN13 := a13.keep (hN12) (by (try simp [World.setCell]); omega) (by simp; omega)
  have A13 := (A12).trans a13 (by (try simp [World.setCell]); omega)
  clear a13 hA12 hN12 A12
  go_wp2
  go_loopg [48] 1 (fun k v wr => (k = 1 ∧ wr = w13) ∨ (k = 0 ∧ ∃ (q cq bk : Nat) (y : ExV), wr.heap[w1.heap.size]? = some (.cells #[.string (str [109, 97, 105, 110]), .int .i64 0, .slice none 0 0, .slice ao3 1 c3, .slice ao4 1 c4, .slice none 0 0, .slice (some ⟨q, 0, none⟩) 1 cq] 39 (0, 0)) ∧ 1 ≤ cq ∧ w1.heap.size < q ∧ q < wr.heap.size ∧ w1.heap.size < bk ∧
      wr.cell? ⟨q, 4, none⟩ = some (.slice (some ⟨bk, 0, none⟩) 1 1) ∧
      wr.heap[bk]? = some (.cells #[.int .i64 y.op, .int .i64 y.k, .int .i64 y.n, .string y.name, .slice y.aS y.nS y.cS, .slice y.aL y.nL y.cL] 45 (0, 0)) ∧ y.k = 2 ∧ Rd wr b g cap begunL 48 22 op ∧ Aside [b] w.heap.size w wr ∧
      wr.heap[w.heap.size]? = some (.cells #[.string ⟨#[]⟩, .int .i64 0, .slice none 0 0, .slice none 0 0, .slice none 0 0, .slice none 0 0, .slice none 0 0] 39 (0, 0))))
  case atStart => exact .inl ⟨rfl, rfl⟩
  case round =>
    rcases hrel with ⟨rfl, rfl⟩ | ⟨rfl, q, cq, bk, y, hN, hcq, hq1, hq2, hbk1, hq4, hbk, hyk, hrd, has, hA⟩
    · go_wp2_with fail
      refine (take_no h13 ⟨#[125]⟩ rfl).mono ?_
      rintro r w14 ⟨rfl, b14⟩
      have h14 := h13.below b14
      have z14 := b14.size
      have hA14 := (aside b14 (S := [])).keep hA13 (lt_of hA13) (by simp)
      have hN14 := (aside b14 (S := [])).keep hN13 (lt_of hN13) (by simp)
      have A14 := A13.trans (aside b14) (by omega)
      clear b14 hA13 hN13 A13
      go_wp2_with fail
      refine (line_eq h14 hN14 (by omega) (by omega) rfl rfl (by decide) rfl rfl rfl begun_whole rfl (by decide)).mono ?_
      rintro r w15 ⟨q, cq, bk, y, rfl, hN15, hcq, hq1, hq2, hbk1, hq4, hbk, hyk, h15, a15⟩
      have z15 := a15.size
      have hA15 := a15.keep hA14 (lt_of hA14) (by simp; omega)
      have A15 := A14.trans ((a15.mono (B' := w.heap.size) (by omega)).wide (S' := [b]) (fun k hk hn => by simp at hn; simp; omega)) (Nat.le_refl _)
      go_wp2
      go_roundg 0
      case measure => omega
      case rel => exact .inr ⟨rfl, q, cq, bk, y, hN15, hcq, by omega, hq2, by omega, hq4, hbk, hyk, h15, A15, hA15⟩
    · go_wp2_with fail
      refine (take_yes hrd ⟨#[125]⟩ rfl (by decide)).mono ?_
      rintro r w16 ⟨rfl, h16, a16⟩
      have z16 := a16.size
      have hN16 := a16.keep hN (lt_of hN) (by simp; omega)
      have hA16 := a16.keep hA (lt_of hA) (by simp; omega)
      have hbk16 := a16.keep hbk (lt_of hbk) (by simp; omega)
      have hqc := (World.cell?_of_block (w := wr) (a := ⟨q, 4, none⟩) (a16.block q hq2 (by simp; omega))).trans hq4
      have A16 := has.trans a16 (by have := has.size; omega)
      clear a16 hN hA hbk hq4 has
      have fa := fun o => free_of hA16 o
      have ca0 := cell_of hA16 0
      have ca1 := cell_of hA16 1
      have ca2 := cell_of hA16 2
      have ca3 := cell_of hA16 3
      have ca4 := cell_of hA16 4
      have ca5 := cell_of hA16 5
      have ca6 := cell_of hA16 6
      have cn0 := cell_of hN16 0
      have cn1 := cell_of hN16 1
      have cn2 := cell_of hN16 2
      have cn3 := cell_of hN16 3
      have cn4 := cell_of hN16 4
      have cn5 := cell_of hN16 5
      have cn6 := cell_of hN16 6
      simp at ca0 ca1 ca2 ca3 ca4 ca5 ca6 cn0 cn1 cn2 cn3 cn4 cn5 cn6
      go_wp2
      have hbkZ := (keep_set (keep_set (keep_set (keep_set (keep_set (keep_set (keep_set hbk16 (p := ⟨w.heap.size, 0, none⟩) (by simp; omega) (.string (str [109, 97, 105, 110]))) (p := ⟨w.heap.size, 1, none⟩) (by simp; omega) (.int .i64 0)) (p := ⟨w.heap.size, 2, none⟩) (by simp; omega) (.slice none 0 0)) (p := ⟨w.heap.size, 3, none⟩) (by simp; omega) (.slice ao3 1 c3)) (p := ⟨w.heap.size, 4, none⟩) (by simp; omega) (.slice ao4 1 c4)) (p := ⟨w.heap.size, 5, none⟩) (by simp; omega) (.slice none 0 0)) (p := ⟨w.heap.size, 6, none⟩) (by simp; omega) (.slice (some ⟨q, 0, none⟩) 1 cq))
      have hqZ : ∀ (k : Nat) (u : Value) (W : World), (W.setCell ⟨w.heap.size, k, none⟩ u).cell? ⟨q, 4, none⟩ = W.cell? ⟨q, 4, none⟩ := fun k u W => World.cell?_of_block (w := W) (Below.heap_setCell _ _ _ _ (by simp; omega))
      have hzq : q < w16.heap.size := by omega
      refine bodyPost_ret (v := .agg #[.string (str [109, 97, 105, 110]), .int .i64 0, .slice none 0 0, .slice ao3 1 c3, .slice ao4 1 c4, .slice none 0 0, .slice (some ⟨q, 0, none⟩) 1 cq]) (by simp [results, Tryz.results62, go_sem, ca0, ca1, ca2, ca3, ca4, ca5, ca6]) rfl ⟨ao3, ao4, c3, c4, q, cq, bk, y, rfl, hcq, by omega, by simpa [World.setCell] using hzq, by omega, ?_, hbkZ, hyk, ?_, ?_⟩
      · rw [hqZ, hqZ, hqZ, hqZ, hqZ, hqZ, hqZ]
        exact hqc
      · exact (((((((h16.set (by simp; omega) (by simp; omega) _).set (by simp; omega) (by simp; omega) _).set (by simp; omega) (by simp; omega) _).set (by simp; omega) (by simp; omega) _).set (by simp; omega) (by simp; omega) _).set (by simp; omega) (by simp; omega) _).set (by simp; omega) (by simp; omega) _)
      · exact (((((((A16.set (by simp) _).set (by simp) _).set (by simp) _).set (by simp) _).set (by simp) _).set (by simp) _).set (by simp) _)

end Go.Proofs.YtplofgkofkjhdaaGreatDoor
