/-
  DERIVED. THE WALK of countParts, and of the reader's whole, where all goes well.
-/
import Derived.Test.YtplofgkofkjhdaaGreatDoorRd5
namespace Go.Proofs.YtplofgkofkjhdaaGreatDoor
open Go.RowKit Go.IntWalk
set_option linter.unusedVariables false
set_option linter.unusedSimpArgs false
set_option maxRecDepth 100000

/-- six cells of an expression at a place -/
def ExAt (w : World) (b o : Nat) (y : ExV) : Prop :=
  w.cell? ⟨b, o, none⟩ = some (.int .i64 y.op) ∧ w.cell? ⟨b, o + 1, none⟩ = some (.int .i64 y.k) ∧ w.cell? ⟨b, o + 2, none⟩ = some (.int .i64 y.n) ∧
  w.cell? ⟨b, o + 3, none⟩ = some (.string y.name) ∧ w.cell? ⟨b, o + 4, none⟩ = some (.slice y.aS y.nS y.cS) ∧ w.cell? ⟨b, o + 5, none⟩ = some (.slice y.aL y.nL y.cL)

theorem ExAt.keep {w w' : World} {b o : Nat} {y : ExV} (h : ExAt w b o y) (hb : w'.heap[b]? = w.heap[b]?) : ExAt w' b o y := by
  have hc : ∀ q, w'.cell? ⟨b, q, none⟩ = w.cell? ⟨b, q, none⟩ := fun q => World.cell?_of_block (w := w) hb
  obtain ⟨h0, h1, h2, h3, h4, h5⟩ := h
  exact ⟨(hc _).trans h0, (hc _).trans h1, (hc _).trans h2, (hc _).trans h3, (hc _).trans h4, (hc _).trans h5⟩

theorem Sl.exAt {ok : Nat → Prop} {w : World} {v : Value} {L : List Ex} {C : Nat → List Value} (hL : Sl ok 6 w v L.length C) (hE : ∀ i (h : i < L.length), HEx ok w (C i) L[i]) :
    ∃ ao cap, v = .slice ao L.length cap ∧ L.length ≤ cap ∧ cap ≤ maxLen ∧ ∀ i (h : i < L.length), ∃ b o y, ao = some ⟨b, o, none⟩ ∧ ok b ∧ b < w.heap.size ∧ ExAt w b (o + i * 6) y ∧ HEx ok w y.cells L[i] := by
  obtain ⟨ao, cap, hv, h1, h2, h3⟩ := hL
  refine ⟨ao, cap, hv, h1, h2, fun i hi => ?_⟩
  obtain ⟨b, o, ha, hob, hb, hc⟩ := h3 (by omega)
  obtain ⟨y, hy, hex⟩ := (hE i hi).toV
  have hcc := (hc i hi).2
  rw [hy] at hcc
  exact ⟨b, o, y, ha, hob, hb, ⟨hcc 0 (by decide), hcc 1 (by decide), hcc 2 (by decide), hcc 3 (by decide), hcc 4 (by decide), hcc 5 (by decide)⟩, hex⟩

mutual
def parts : Ex → Nat
  | .mk _ _ _ _ _ L => 1 + partsL L
def partsL : List Ex → Nat
  | [] => 0
  | e :: l => parts e + partsL l
end

theorem partsL_take : ∀ (L : List Ex) (i : Nat) (h : i < L.length), partsL (L.take (i + 1)) = partsL (L.take i) + parts L[i]
  | [], i, h => by simp at h
  | e :: L, 0, h => by simp [partsL]
  | e :: L, i + 1, h => by
    have := partsL_take L i (by simpa using h)
    simp [partsL] at this ⊢
    omega
theorem partsL_le : ∀ (L : List Ex) (i : Nat), partsL (L.take i) ≤ partsL L
  | [], i => by simp [partsL]
  | e :: L, 0 => by simp [partsL]
  | e :: L, i + 1 => by have := partsL_le L i; simp [partsL]; omega
theorem parts_mem : ∀ (L : List Ex) (i : Nat) (h : i < L.length), parts L[i] ≤ partsL L := fun L i h => by
  have h1 := partsL_take L i h
  have h2 := partsL_le L (i + 1)
  omega

set_option maxHeartbeats 4000000 in
theorem countParts_any : ∀ (n : Nat) (e : Ex), parts e ≤ n → n ≤ 1099511627776 → ∀ (ok : Nat → Prop) (x : ExV) (w : World), HEx ok w x.cells e →
    Calls Tryz.prog 109 #[.agg #[.int .i64 x.op, .int .i64 x.k, .int .i64 x.n, .string x.name, .slice x.aS x.nS x.cS, .slice x.aL x.nL x.cL]] w fun r w' => r = .returned (.int .i64 (parts e : Int)) ∧ Below w.heap.size w w'
  | 0, .mk _ _ _ _ _ L, hn, _, _, _, _, _ => by simp [parts] at hn
  | n + 1, .mk op k nn name S L, hn, hbig, ok, x, w, hx => by
    obtain ⟨oo, kk, nv, nm, aS, nS, cS, aL, nL, cL⟩ := x
    have hp : 1 + partsL L ≤ n + 1 := by simpa [parts] using hn
    rw [parts]
    have HI : ∀ e, parts e ≤ n → ∀ (ok : Nat → Prop) (x : ExV) (w : World), HEx ok w x.cells e →
      Calls Tryz.prog 109 #[.agg #[.int .i64 x.op, .int .i64 x.k, .int .i64 x.n, .string x.name, .slice x.aS x.nS x.cS, .slice x.aL x.nL x.cL]] w fun r w' => r = .returned (.int .i64 (parts e : Int)) ∧ Below w.heap.size w w' :=
      fun e he => countParts_any n e he (by omega)
    cases hx with
    | @mk _ _ _ _ _ _ _ _ C hS hL hE =>
      obtain ⟨ao, cap, hv, hc1, hc2, hat⟩ := hL.exAt hE
      injection hv with q1 q2 q3
      subst q1 q2 q3
      have hcm := hc2
      unfold maxLen at hcm
      go_enter Tryz.func109, Tryz.ntmps109
      go_wp2
      go_loopg [3, 9] L.length (fun q v3 v9 wr => ∃ i, i ≤ L.length ∧ q = L.length - i ∧ v9 = .int .i64 (i : Nat) ∧ v3 = .int .i64 ((1 + partsL (L.take i) : Nat) : Int) ∧ Below w.heap.size w wr)
      case atStart => exact ⟨0, Nat.zero_le _, rfl, rfl, by simp [partsL], (Below.refl _ w).alloc (Nat.le_refl _) _⟩
      case round =>
        obtain ⟨i, hi, rfl, rfl, rfl, hbr⟩ := hrel
        by_cases hlt : i < L.length
        · obtain ⟨b, o, y, rfl, _, hb, hxa, hy⟩ := hat i hlt
          obtain ⟨c0, c1, c2, c3, c4, c5⟩ := hxa.keep (hbr.block b hb)
          have ht := partsL_take L i hlt
          have hl := partsL_le L (i + 1)
          have hy' := (hy.under hbr).under ((Below.refl _ wr).alloc (Nat.le_refl _) (.cells #[.int .i64 y.op, .int .i64 y.k, .int .i64 y.n, .string y.name, .slice y.aS y.nS y.cS, .slice y.aL y.nL y.cL] 45 (0, 0)))
          go_wp2_with fail
          refine (HI L[i] (by have := parts_mem L i hlt; omega) ok y _ hy').mono ?_
          rintro r w2 ⟨rfl, b2⟩
          have hb2 : Below w.heap.size w w2 := (hbr.alloc hbr.size _).trans (b2.mono (by have := hbr.size; simp; omega))
          have HT := hide ht
          have HL := hide hl
          clear ht hl hy' hat HI
          go_wp2
          go_roundg (L.length - (i + 1))
          case measure => omega
          case rel =>
            have ht := HT.out
            have hl := HL.out
            rw [ht] at hl
            exact ⟨i + 1, by omega, rfl, by go_num, by rw [ht, wrap64_in _ (by omega)]; go_num, hb2⟩
        · have hie : i = L.length := by omega
          subst hie
          clear hat HI
          go_wp2
          go_ret
          exact ⟨ret_int (by rw [List.take_length]), hbr⟩

set_option maxHeartbeats 4000000 in
theorem whole_ok {b g cap : Nat} {L : List Tk.Tok} {len op nx n1 : Nat} {e : Ex} (hG : Gives 108 b g cap L len op nx n1 e) (hp : parts e ≤ 30) : Gives 102 b g cap L len op nx n1 e := by
  refine ⟨hG.1, fun w h => ?_⟩
  have hb := h.bb
  have hg := h.gb
  have hf := fun t x w => tokF1 t x w
  have hd : decide ((30 : Int) < (parts e : Int)) = false := by simp; omega
  go_enter Tryz.func102, Tryz.ntmps102
  go_wp2_with fail
  refine (peek_any (h.alloc _)).mono ?_
  unfold tokV
  rintro r w1 ⟨rfl, b1⟩
  have h1 := (h.alloc _).below b1
  have z1 : w.heap.size + 1 ≤ w1.heap.size := by simpa using b1.size
  have hA1 := (aside b1 (S := [])).keep (heap_new w _) (by simp) (by simp)
  have A1 := ((Aside.refl (S := [b]) (B := w.heap.size) w).alloc (Nat.le_refl _) _).trans (aside b1) (by simp)
  clear b1
  go_wp2_with fail
  refine (hG.2 _ h1).mono ?_
  rintro r w3 ⟨y, rfl, he3, h3, a3⟩
  have z3 := a3.size
  have hA3 := a3.keep hA1 (lt_of hA1) (by simp; omega)
  have A3 := A1.trans a3 (by omega)
  have he3' := (he3.wide (ok' := fun i => w.heap.size < i) (fun i hi hl => by omega)).under ((Below.refl _ w3).alloc (Nat.le_refl _) (.cells #[.int .i64 y.op, .int .i64 y.k, .int .i64 y.n, .string y.name, .slice y.aS y.nS y.cS, .slice y.aL y.nL y.cL] 45 (0, 0)))
  clear a3 hA1 A1 he3
  go_wp2_with fail
  refine (countParts_any 30 e hp (by decide) _ y _ he3').mono ?_
  rintro r w4 ⟨rfl, b4⟩
  have z4 : w3.heap.size + 1 ≤ w4.heap.size := by simpa using b4.size
  have h4 := (h3.alloc _).below b4
  have hA4 := (aside b4 (S := [])).keep (keep_alloc hA3 _) (by simp; omega) (by simp)
  have hB4 := (aside b4 (S := [])).keep (heap_new w3 _) (by simp) (by simp)
  have A4 := (A3.alloc (by omega) _).trans (aside b4) (by simp; omega)
  have he4 := he3'.under b4
  clear b4
  have fa := fun o => free_of hA4 o
  have ca0 := cell_of hA4 0
  have ca1 := cell_of hA4 1
  have ca2 := cell_of hA4 2
  have ca3 := cell_of hA4 3
  have ca4 := cell_of hA4 4
  have ca5 := cell_of hA4 5
  have cb0 := cell_of hB4 0
  have cb1 := cell_of hB4 1
  have cb2 := cell_of hB4 2
  have cb3 := cell_of hB4 3
  have cb4 := cell_of hB4 4
  have cb5 := cell_of hB4 5
  simp at ca0 ca1 ca2 ca3 ca4 ca5 cb0 cb1 cb2 cb3 cb4 cb5
  go_wp2
  refine bodyPost_ret (v := .agg #[.int .i64 y.op, .int .i64 y.k, .int .i64 y.n, .string y.name, .slice y.aS y.nS y.cS, .slice y.aL y.nL y.cL]) (by simp [results, Tryz.results102, go_sem, ca0, ca1, ca2, ca3, ca4, ca5]) rfl ⟨y, rfl, ?_, ?_, ?_⟩
  · exact ((((((he4.set (by simp) _).set (by simp) _).set (by simp) _).set (by simp) _).set (by simp) _).set (by simp) _).wide (fun i hi _ => Nat.le_of_lt hi)
  · exact (((((h4.set (by simp; omega) (by simp; omega) _).set (by simp; omega) (by simp; omega) _).set (by simp; omega) (by simp; omega) _).set (by simp; omega) (by simp; omega) _).set (by simp; omega) (by simp; omega) _).set (by simp; omega) (by simp; omega) _
  · exact (((((A4.set (by simp) _).set (by simp) _).set (by simp) _).set (by simp) _).set (by simp) _).set (by simp) _

end Go.Proofs.YtplofgkofkjhdaaGreatDoor
