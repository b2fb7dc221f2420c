/-
  DERIVED. THE WALK of countParts, and of the reader's whole, where all goes well.
-/
import Derived.Test.YtmgaeapckfdbpaaDoorM05
import Derived.Test.YtmgaeapckfdbpaaDoorM04
import Derived.WalkLawsBesides
namespace Go.Proofs.YtmgaeapckfdbpaaDoor
open Go.RowKit Go.IntWalk
set_option linter.unusedVariables false
set_option linter.unusedSimpArgs false
set_option maxRecDepth 100000

/-- six cells of an expression at a place -/
def ExAt (w : World) (b o : Nat) (y : ExV) : Prop :=
  w.cell? ⟨b, o, none⟩ = some (.int .i64 y.op) ∧ w.cell? ⟨b, o + 1, none⟩ = some (.int .i64 y.k) ∧ w.cell? ⟨b, o + 2, none⟩ = some (.int .i64 y.n) ∧
  w.cell? ⟨b, o + 3, none⟩ = some (.string y.name) ∧ w.cell? ⟨b, o + 4, none⟩ = some (.slice y.aS y.nS y.cS) ∧ w.cell? ⟨b, o + 5, none⟩ = some (.slice y.aL y.nL y.cL)

theorem ExAt.keep {w w' : World} {b o : Nat} {y : ExV} (h : ExAt w b o y) (hb : w'.heap[b]? = w.heap[b]?) : ExAt w' b o y := by
  have hc : ∀ q, w'.cell? ⟨b, q, none⟩ = w.cell? ⟨b, q, none⟩ := fun q => World.cell?_of_block (w := w) hb
  obtain ⟨h0, h1, h2, h3, h4, h5⟩ := h
  exact ⟨(hc _).trans h0, (hc _).trans h1, (hc _).trans h2, (hc _).trans h3, (hc _).trans h4, (hc _).trans h5⟩

theorem Sl.exAt {ok : Nat → Prop} {w : World} {v : Value} {L : List Ex} {C : Nat → List Value} (hL : Sl ok 6 w v L.length C) (hE : ∀ i (h : i < L.length), HEx ok w (C i) L[i]) :
    ∃ ao cap, v = .slice ao L.length cap ∧ L.length ≤ cap ∧ cap ≤ maxLen ∧ ∀ i (h : i < L.length), ∃ b o y, ao = some ⟨b, o, none⟩ ∧ ok b ∧ b < w.heap.size ∧ ExAt w b (o + i * 6) y ∧ HEx ok w y.cells L[i] := by
  obtain ⟨ao, cap, hv, h1, h2, h3⟩ := hL
  refine ⟨ao, cap, hv, h1, h2, fun i hi => ?_⟩
  obtain ⟨b, o, ha, hob, hb, hc⟩ := h3 (by omega)
  obtain ⟨y, hy, hex⟩ := (hE i hi).toV
  have hcc := (hc i hi).2
  rw [hy] at hcc
  exact ⟨b, o, y, ha, hob, hb, ⟨hcc 0 (by decide), hcc 1 (by decide), hcc 2 (by decide), hcc 3 (by decide), hcc 4 (by decide), hcc 5 (by decide)⟩, hex⟩

mutual
def parts : Ex → Nat
  | .mk _ _ _ _ _ L => 1 + partsL L
def partsL : List Ex → Nat
  | [] => 0
  | e :: l => parts e + partsL l
end

theorem partsL_take : ∀ (L : List Ex) (i : Nat) (h : i < L.length), partsL (L.take (i + 1)) = partsL (L.take i) + parts L[i]
  | [], i, h => by simp at h
  | e :: L, 0, h => by simp [partsL]
  | e :: L, i + 1, h => by
    have := partsL_take L i (by simpa using h)
    simp [partsL] at this ⊢
    omega
theorem partsL_le : ∀ (L : List Ex) (i : Nat), partsL (L.take i) ≤ partsL L
  | [], i => by simp [partsL]
  | e :: L, 0 => by simp [partsL]
  | e :: L, i + 1 => by have := partsL_le L i; simp [partsL]; omega
theorem parts_mem : ∀ (L : List Ex) (i : Nat) (h : i < L.length), parts L[i] ≤ partsL L := fun L i h => by
  have h1 := partsL_take L i h
  have h2 := partsL_le L (i + 1)
  omega

set_option maxHeartbeats 4000000 in
theorem countParts_any : ∀ (n : Nat) (e : Ex), parts e ≤ n → n ≤ 1099511627776 → ∀ (ok : Nat → Prop) (x : ExV) (w : World), HEx ok w x.cells e →
    Calls Tryd.prog 75 #[.agg #[.int .i64 x.op, .int .i64 x.k, .int .i64 x.n, .string x.name, .slice x.aS x.nS x.cS, .slice x.aL x.nL x.cL]] w fun r w' => r = .returned (.int .i64 (parts e : Int)) ∧ Below w.heap.size w w'
  | 0, .mk _ _ _ _ _ L, hn, _, _, _, _, _ => by simp [parts] at hn
  | n + 1, .mk op k nn name S L, hn, hbig, ok, x, w, hx => by
    obtain ⟨oo, kk, nv, nm, aS, nS, cS, aL, nL, cL⟩ := x
    have hp : 1 + partsL L ≤ n + 1 := by simpa [parts] using hn
    rw [parts]
    have HI : ∀ e, parts e ≤ n → ∀ (ok : Nat → Prop) (x : ExV) (w : World), HEx ok w x.cells e →
      Calls Tryd.prog 75 #[.agg #[.int .i64 x.op, .int .i64 x.k, .int .i64 x.n, .string x.name, .slice x.aS x.nS x.cS, .slice x.aL x.nL x.cL]] w fun r w' => r = .returned (.int .i64 (parts e : Int)) ∧ Below w.heap.size w w' :=
      fun e he => countParts_any n e he (by omega)
    cases hx with
    | @mk _ _ _ _ _ _ _ _ C hS hL hE =>
      obtain ⟨ao, cap, hv, hc1, hc2, hat⟩ := hL.exAt hE
      injection hv with q1 q2 q3
      subst q1 q2 q3
      have hcm := hc2
      unfold maxLen at hcm
      go_enter Tryd.func75, Tryd.ntmps75
      go_wp2
      go_loopg [3, 9] L.length (fun q v3 v9 wr => ∃ i, i ≤ L.length ∧ q = L.length - i ∧ v9 = .int .i64 (i : Nat) ∧ v3 = .int .i64 ((1 + partsL (L.take i) : Nat) : Int) ∧ Below w.heap.size w wr)
      case atStart => exact ⟨0, Nat.zero_le _, rfl, rfl, by simp [partsL], (Below.refl _ w).alloc (Nat.le_refl _) _⟩
      case round =>
        obtain ⟨i, hi, rfl, rfl, rfl, hbr⟩ := hrel
        by_cases hlt : i < L.length
        · obtain ⟨b, o, y, rfl, _, hb, hxa, hy⟩ := hat i hlt
          obtain ⟨c0, c1, c2, c3, c4, c5⟩ := hxa.keep (hbr.block b hb)
          have ht := partsL_take L i hlt
          have hl := partsL_le L (i + 1)
          have hy' := (hy.under hbr).under ((Below.refl _ wr).alloc (Nat.le_refl _) (.cells #[.int .i64 y.op, .int .i64 y.k, .int .i64 y.n, .string y.name, .slice y.aS y.nS y.cS, .slice y.aL y.nL y.cL] 46 (0, 0)))
          go_wp2_with fail
          refine (HI L[i] (by have := parts_mem L i hlt; omega) ok y _ hy').mono ?_
          rintro r w2 ⟨rfl, b2⟩
          have hb2 : Below w.heap.size w w2 := (hbr.alloc hbr.size _).trans (b2.mono (by have := hbr.size; simp; omega))
          have HT := hide ht
          have HL := hide hl
          clear ht hl hy' hat HI
          go_wp2
          go_roundg (L.length - (i + 1))
          case measure => omega
          case rel =>
            have ht := HT.out
            have hl := HL.out
            rw [ht] at hl
            exact ⟨i + 1, by omega, rfl, by go_num, by rw [ht, wrap64_in _ (by omega)]; go_num, hb2⟩
        · have hie : i = L.length := by omega
          subst hie
          clear hat HI
          go_wp2
          go_ret
          exact ⟨ret_int (by rw [List.take_length]), hbr⟩

set_option maxHeartbeats 4000000 in
theorem whole_ok {b g cap : Nat} {L : List Tk.Tok} {len op nx n1 : Nat} {e : Ex} (hG : Gives 74 b g cap L len op nx n1 e) (hp : parts e ≤ 30) : Gives 70 b g cap L len op nx n1 e := by
  refine ⟨hG.1, fun w h => ?_⟩
  have hb := h.bb
  have hg := h.gb
  have hf := fun t x w => tokF1 t x w
  have hd : decide ((30 : Int) < (parts e : Int)) = false := by simp; omega
  go_enter Tryd.func70, Tryd.ntmps70
  go_wp2_with fail
  refine (peek_any (h.alloc _)).mono ?_
  unfold tokV
  rintro r w1 ⟨rfl, b1⟩
  have h1 := (h.alloc _).below b1
  have z1 : w.heap.size + 1 ≤ w1.heap.size := by simpa using b1.size
  have hA1 := (aside b1 (S := [])).keep (heap_new w _) (by simp) (by simp)
  have A1 := ((Aside.refl (S := [b]) (B := w.heap.size) w).alloc (Nat.le_refl _) _).trans (aside b1) (by simp)
  clear b1
  go_wp2_with fail
  refine (hG.2 _ h1).mono ?_
  rintro r w3 ⟨y, rfl, he3, h3, a3⟩
  have z3 := a3.size
  have hA3 := a3.keep hA1 (lt_of hA1) (by simp; omega)
  have A3 := A1.trans a3 (by omega)
  have he3' := (he3.wide (ok' := fun i => w.heap.size < i) (fun i hi hl => by omega)).under ((Below.refl _ w3).alloc (Nat.le_refl _) (.cells #[.int .i64 y.op, .int .i64 y.k, .int .i64 y.n, .string y.name, .slice y.aS y.nS y.cS, .slice y.aL y.nL y.cL] 46 (0, 0)))
  clear a3 hA1 A1 he3
  go_wp2_with fail
  refine (countParts_any 30 e hp (by decide) _ y _ he3').mono ?_
  rintro r w4 ⟨rfl, b4⟩
  have z4 : w3.heap.size + 1 ≤ w4.heap.size := by simpa using b4.size
  have h4 := (h3.alloc _).below b4
  have hA4 := (aside b4 (S := [])).keep (keep_alloc hA3 _) (by simp; omega) (by simp)
  have hB4 := (aside b4 (S := [])).keep (heap_new w3 _) (by simp) (by simp)
  have A4 := (A3.alloc (by omega) _).trans (aside b4) (by simp; omega)
  have he4 := he3'.under b4
  clear b4
  have fa := fun o => free_of hA4 o
  have ca0 := cell_of hA4 0
  have ca1 := cell_of hA4 1
  have ca2 := cell_of hA4 2
  have ca3 := cell_of hA4 3
  have ca4 := cell_of hA4 4
  have ca5 := cell_of hA4 5
  have cb0 := cell_of hB4 0
  have cb1 := cell_of hB4 1
  have cb2 := cell_of hB4 2
  have cb3 := cell_of hB4 3
  have cb4 := cell_of hB4 4
  have cb5 := cell_of hB4 5
  simp at ca0 ca1 ca2 ca3 ca4 ca5 cb0 cb1 cb2 cb3 cb4 cb5
  go_wp2
  refine bodyPost_ret (v := .agg #[.int .i64 y.op, .int .i64 y.k, .int .i64 y.n, .string y.name, .slice y.aS y.nS y.cS, .slice y.aL y.nL y.cL]) (by simp [results, Tryd.results70, go_sem, ca0, ca1, ca2, ca3, ca4, ca5]) rfl ⟨y, rfl, ?_, ?_, ?_⟩
  · exact ((((((he4.set (by simp) _).set (by simp) _).set (by simp) _).set (by simp) _).set (by simp) _).set (by simp) _).wide (fun i hi _ => Nat.le_of_lt hi)
  · exact (((((h4.set (by simp; omega) (by simp; omega) _).set (by simp; omega) (by simp; omega) _).set (by simp; omega) (by simp; omega) _).set (by simp; omega) (by simp; omega) _).set (by simp; omega) (by simp; omega) _).set (by simp; omega) (by simp; omega) _
  · exact (((((A4.set (by simp) _).set (by simp) _).set (by simp) _).set (by simp) _).set (by simp) _).set (by simp) _

end Go.Proofs.YtmgaeapckfdbpaaDoor


/-
  DERIVED. THE WALKS of a row of one name and of an equation, where all goes well.
-/
namespace Go.Proofs.YtmgaeapckfdbpaaDoor
open Go.RowKit Go.IntWalk
set_option linter.unusedVariables false
set_option linter.unusedSimpArgs false
set_option maxRecDepth 100000

theorem tokG0 (a p n : Int) (x : ByteArray) (w : World) : (Instr.field 53 (.agg #[.int .i64 a, .int .i64 p, .string x, .int .i64 n]) 0).run Tryd.prog w = .ok (.int .i64 a) w := by kernel_rfl
theorem tokG1 (a p n : Int) (x : ByteArray) (w : World) : (Instr.field 53 (.agg #[.int .i64 a, .int .i64 p, .string x, .int .i64 n]) 1).run Tryd.prog w = .ok (.int .i64 p) w := by kernel_rfl

theorem new1 (w : World) (a : Value) (t : TypeId) : ∀ j u, [a][j]? = some u → (w.alloc (.cells #[a] t)).cell? ((⟨w.heap.size, 0, none⟩ : Addr).add j) = some u := by
  intro j u hj
  match j, hj with
  | 0, hj => simp at hj; subst hj; simp [Addr.add]

theorem Tryd.info9 : (Tryd.prog.info? 9).map (fun i => (i.zero, i.size, i.bytes)) = some (some (.string ⟨#[]⟩), 1, 16) := by kernel_rfl

set_option maxHeartbeats 4000000 in
theorem rowName_one {w : World} {b g cap : Nat} {L : List Tk.Tok} {len nx op : Nat} (h : Rd w b g cap L len nx op) (hk : (peekT L len nx).kind = 2) (hn : nx < L.length) (hc : ((peekT L len (nx + 1)).text == [44]) = false) (mx : Int) (hmx : 0 < mx) :
    Calls Tryd.prog 53 #[.pointer (some ⟨b, 0, none⟩), .int .i64 mx, .func (.func 51) #[.pointer (some ⟨b, 0, none⟩)] #[]] w fun e w' =>
      ∃ ao c, e = .returned (.slice ao 1 c) ∧ Rd w' b g cap L len (nx + 1) op ∧ Aside [b] w.heap.size w w' := by
  obtain ⟨i0, hi, hz0, hz1, hz2⟩ := info_parts Tryd.info9
  go_enter Tryd.func53, Tryd.ntmps53
  go_wp2
  go_loopg [7] 0 (fun q v wr => v = .slice none 0 0 ∧ wr = w)
  case atStart => exact ⟨rfl, rfl⟩
  case round =>
    obtain ⟨rfl, rfl⟩ := hrel
    go_wp2_with fail
    refine (allow_yes _ 0 mx (by omega) _).mono ?_
    rintro e w1 ⟨rfl, rfl⟩
    go_wp2_with fail
    refine (name_yes h hk hn).mono ?_
    rintro e w2 ⟨rfl, h2, a2⟩
    go_wp2_with (at_builtin; refine wpList_append_own _ rfl _ _ 35 rfl w2.heap.size 9 i0 (.string ⟨#[]⟩) 1 16 Tryd.underlying35 hi hz0 hz1 hz2 rfl (by decide) _ _ _ rfl (World.ownsRow_nil _ _ _ _) ⟨w2.heap.size, 0, none⟩ 1 1 [.string (str (peekT L len nx).text)] rfl rfl (new1 _ _ _) (by intro u hu; simp at hu; rcases hu with rfl; rfl) (by unfold maxLen; omega) (by omega) (by simp) ?_; intro v3 w3 hown hgrow _)
    have b3 : Below w2.heap.size w2 w3 := ((Below.refl _ w2).alloc (Nat.le_refl _) _).grown hgrow (by simp) (fun k hk => by cases hk)
    obtain ⟨gg, cc, rfl, _, _, _, _, _⟩ := owns_pos hown (by omega)
    clear hgrow hown
    refine (take_no (h2.below b3) _ hc).mono ?_
    rintro e w4 ⟨rfl, b4⟩
    go_wp2
    go_ret
    exact ⟨_, _, rfl, (h2.below b3).below b4, (a2.trans (aside b3) a2.size).trans (aside b4) (Nat.le_trans a2.size b3.size)⟩

set_option maxHeartbeats 8000000 in
theorem equation_one {w : World} {b g cap : Nat} {L : List Tk.Tok} {len nx op n1 : Nat} {e : Ex} (h : Rd w b g cap L len nx op) (hk : (peekT L len nx).kind = 2) (hn : nx + 1 < L.length) (hc : ((peekT L len (nx + 1)).text == [44]) = false)
    (hq : ((peekT L len (nx + 1)).text == [61]) = true) (hcall : ((peekT L len (nx + 2)).text == [99, 97, 108, 108]) = false) (hG : Gives 70 b g cap L len op (nx + 2) n1 e) :
    Calls Tryd.prog 65 #[.pointer (some ⟨b, 0, none⟩)] w fun r w' => ∃ (p : Int) (ao : Option Addr) (c bk : Nat) (y : ExV),
      r = .returned (.agg #[.int .i64 p, .slice ao 1 c, .string ⟨#[]⟩, .slice none 0 0, .slice (some ⟨bk, 0, none⟩) 1 1]) ∧ w.heap.size ≤ bk ∧
      w'.heap[bk]? = some (.cells #[.int .i64 y.op, .int .i64 y.k, .int .i64 y.n, .string y.name, .slice y.aS y.nS y.cS, .slice y.aL y.nL y.cL] 46 (0, 0)) ∧ HEx (fun i => w.heap.size ≤ i) w' y.cells e ∧ Rd w' b g cap L len n1 op ∧ Aside [b] w.heap.size w w' := by
  have hb := h.bb
  have hg := h.gb
  have hf := tokG1
  have hmf := makes
  go_enter Tryd.func65, Tryd.ntmps65
  go_wp2_with fail
  refine (peek_any (h.alloc _)).mono ?_
  unfold tokV
  rintro r w1 ⟨rfl, b1⟩
  have h1 := (h.alloc _).below b1
  have z1 : w.heap.size + 1 ≤ w1.heap.size := by simpa using b1.size
  have hA1 := (aside b1 (S := [])).keep (heap_new w _) (by simp) (by simp)
  have A1 := ((Aside.refl (S := [b]) (B := w.heap.size) w).alloc (Nat.le_refl _) _).trans (aside b1) (by simp)
  clear b1
  go_wp2_with fail
  refine (rowName_one (h1.alloc _) hk (by omega) hc 30 (by decide)).mono ?_
  rintro r w2 ⟨ao, c, rfl, h2, a2⟩
  have z2 : w1.heap.size + 1 ≤ w2.heap.size := by simpa using a2.size
  have hA2 := a2.keep (keep_alloc hA1 _) (by simp; omega) (by simp; omega)
  have hB2 := a2.keep (heap_new w1 _) (by simp) (by simp; omega)
  have A2 := (A1.alloc (by omega) _).trans a2 (by simp; omega)
  have cB1 := cell_of hB2 1
  have fB1 := free_of hB2 1
  simp at cB1
  clear a2 hA1 A1
  go_wp2_with fail
  refine (need_yes (h2.set (by simp; omega) (by simp; omega) _) ⟨#[61]⟩ hq (by omega)).mono ?_
  rintro r w3 ⟨rfl, h3, a3⟩
  have z3 : w2.heap.size ≤ w3.heap.size := by simpa [World.setCell] using a3.size
  have hA3 := a3.keep (keep_set hA2 (by simp; omega) _) (by simp [World.setCell]; omega) (by simp; omega)
  have hB3 := a3.keep (set_in hB2 1 _) (by simp [World.setCell]; omega) (by simp; omega)
  have A3 := (A2.set (p := ⟨w1.heap.size, 1, none⟩) (by simp; omega) _).trans a3 (by simp [World.setCell]; omega)
  simp at hB3
  have cB31 := cell_of hB3 1
  simp at cB31
  clear a3 hA2 A2 hB2 cB1 fB1
  go_wp2_with fail
  refine (sees_any h3 ⟨#[99, 97, 108, 108]⟩).mono ?_
  rintro r w4 ⟨rfl, b4⟩
  rw [hcall]
  have h4 := h3.below b4
  have z4 := b4.size
  have hA4 := (aside b4 (S := [])).keep hA3 (lt_of hA3) (by simp)
  have hB4 := (aside b4 (S := [])).keep hB3 (lt_of hB3) (by simp)
  have A4 := A3.trans (aside b4) (by omega)
  clear b4 hA3 hB3 A3 cB31
  go_wp2_with fail
  refine (hG.2 _ h4).mono ?_
  rintro r w5 ⟨y, rfl, he5, h5, a5⟩
  have z5 := a5.size
  have hA5 := a5.keep hA4 (lt_of hA4) (by simp; omega)
  have hB5 := a5.keep hB4 (lt_of hB4) (by simp; omega)
  have A5 := A4.trans a5 (by omega)
  have he5' := (he5.wide (ok' := fun i => w1.heap.size < i) (fun i hi hl => by omega)).under ((Below.refl _ w5).alloc (Nat.le_refl _) (.cells #[.int .i64 y.op, .int .i64 y.k, .int .i64 y.n, .string y.name, .slice y.aS y.nS y.cS, .slice y.aL y.nL y.cL] 46 (0, 0)))
  clear a5 hA4 hB4 A4 he5
  obtain ⟨o5, ho5⟩ : ∃ o5 : Obj, o5 = .cells #[.int .i64 y.op, .int .i64 y.k, .int .i64 y.n, .string y.name, .slice y.aS y.nS y.cS, .slice y.aL y.nL y.cL] 46 (0, 0) := ⟨_, rfl⟩
  have hA6 := keep_alloc hA5 (.cells #[.int .i64 y.op, .int .i64 y.k, .int .i64 y.n, .string y.name, .slice y.aS y.nS y.cS, .slice y.aL y.nL y.cL] 46 (0, 0))
  have hB6 := keep_alloc hB5 (.cells #[.int .i64 y.op, .int .i64 y.k, .int .i64 y.n, .string y.name, .slice y.aS y.nS y.cS, .slice y.aL y.nL y.cL] 46 (0, 0))
  have cB4 := cell_of hB6 4
  have fB := fun o => free_of hB6 o
  have fA := fun o => free_of hA6 o
  have cb0 := cell_of hB6 0
  have cb1 := cell_of hB6 1
  have cb2 := cell_of hB6 2
  have cb3 := cell_of hB6 3
  have cb4 := cell_of hB6 4
  have ca0 := cell_of hA6 0
  have ca1 := cell_of hA6 1
  have ca2 := cell_of hA6 2
  have ca3 := cell_of hA6 3
  have ca4 := cell_of hA6 4
  clear ho5 o5
  simp at cB4 cb0 cb1 cb2 cb3 cb4 ca0 ca1 ca2 ca3 ca4
  go_wp2
  have hE := keep_set (keep_set (keep_set (keep_set (keep_set (keep_set (heap_new w5 (.cells #[.int .i64 y.op, .int .i64 y.k, .int .i64 y.n, .string y.name, .slice y.aS y.nS y.cS, .slice y.aL y.nL y.cL] 46 (0, 0))) (p := ⟨w1.heap.size, 4, none⟩) (by simp; omega) (.slice (some ⟨w5.heap.size, 0, none⟩) 1 1)) (p := ⟨w.heap.size, 0, none⟩) (by simp; omega) (.int .i64 ((peekT L len nx).place : Int))) (p := ⟨w.heap.size, 1, none⟩) (by simp; omega) (.slice ao 1 c)) (p := ⟨w.heap.size, 2, none⟩) (by simp; omega) (.string ⟨#[]⟩)) (p := ⟨w.heap.size, 3, none⟩) (by simp; omega) (.slice none 0 0)) (p := ⟨w.heap.size, 4, none⟩) (by simp; omega) (.slice (some ⟨w5.heap.size, 0, none⟩) 1 1)
  refine bodyPost_ret (v := .agg #[.int .i64 ((peekT L len nx).place : Int), .slice ao 1 c, .string ⟨#[]⟩, .slice none 0 0, .slice (some ⟨w5.heap.size, 0, none⟩) 1 1]) (by simp [results, Tryd.results65, go_sem, ca0, ca1, ca2, ca3, ca4]) rfl ⟨_, ao, c, w5.heap.size, y, rfl, by omega, hE, ?_, ?_, ?_⟩
  · exact ((((((he5'.set (by simp) _).set (by simp; omega) _).set (by simp; omega) _).set (by simp; omega) _).set (by simp; omega) _).set (by simp; omega) _).wide (fun i hi _ => by omega)
  · exact ((((((h5.alloc _).set (by simp; omega) (by simp; omega) _).set (by simp; omega) (by simp; omega) _).set (by simp; omega) (by simp; omega) _).set (by simp; omega) (by simp; omega) _).set (by simp; omega) (by simp; omega) _).set (by simp; omega) (by simp; omega) _
  · exact ((((((A5.alloc (by omega) _).set (by simp; omega) _).set (by simp) _).set (by simp) _).set (by simp) _).set (by simp) _).set (by simp) _

end Go.Proofs.YtmgaeapckfdbpaaDoor


/-
  DERIVED. THE WALKS of the reader's small functions, whatever comes: giveUp, refuse, allow, take, need, name.
-/
namespace Go.Proofs.YtmgaeapckfdbpaaDoor
open Go.RowKit Go.IntWalk
set_option linter.unusedVariables false
set_option linter.unusedSimpArgs false
set_option maxRecDepth 100000

/-- what the reader gives up with: a fault's code and its place -/
def upV (c a : Int) : Value := .iface 65 (.agg #[.int .i64 c, .int .i64 a])
def upE (c a : Int) : Ending := .panicked [{ v := upV c a, recovered := false }]

/-- a reader over what came in -/
def RdI (w : World) (b g cap : Nat) (I : Inp) (nx op : Nat) : Prop := Rd w b g cap I.L I.len nx op

/-- how a function of the reader's ends: a value that holds what was read, or it has given up -/
def Post {α : Type} (b g cap : Nat) (I : Inp) (op : Nat) (V : Nat → World → Value → α → Prop) (nx : Nat) (w : World) (res : Res α) (r : Ending) (w' : World) : Prop :=
  Aside [b] w.heap.size w w' ∧
  match res with
  | .ok v n1 => nx ≤ n1 ∧ Rd w' b g cap I.L I.len n1 op ∧ ∃ x, r = .returned x ∧ V w.heap.size w' x v
  | .err c a => r = upE c a

theorem sees_lt {I : Inp} {s : List UInt8} {n : Nat} (h : Ps.sees I s n = true) (hs : s ≠ []) : n < I.L.length := by
  apply Classical.byContradiction
  intro hn
  unfold Ps.sees Inp.pk peekT at h
  simp [hn] at h
  exact hs h
theorem kind_lt {I : Inp} {n : Nat} (h : (I.pk n).kind ≠ 0) : n < I.L.length := by
  apply Classical.byContradiction
  intro hn
  unfold Inp.pk peekT at h
  simp [hn] at h

set_option maxHeartbeats 1000000 in
theorem giveUp_any (c a : Int) (w : World) : Calls Tryd.prog 57 #[.int .i64 c, .int .i64 a] w fun e w' => e = upE c a ∧ w' = w := by
  go_enter Tryd.func57, Tryd.ntmps57
  go_wp2
  exact ⟨rfl, rfl, rfl⟩

def noV : Nat → World → Value → Unit → Prop := fun _ _ x _ => x = .tuple #[]
def strV : Nat → World → Value → ByteArray → Prop := fun _ _ x s => x = .string s

set_option maxHeartbeats 2000000 in
theorem refuse_any {w : World} {b g cap : Nat} {I : Inp} {nx op : Nat} (h : Rd w b g cap I.L I.len nx op) :
    Calls Tryd.prog 62 #[.pointer (some ⟨b, 0, none⟩)] w fun e w' => e = upE (Ps.refC I nx) (I.pk nx).place ∧ Below w.heap.size w w' := by
  have hp := @peek_any _ _ _ _ _ _ _ _ h
  unfold Ps.refC Inp.pk
  obtain ⟨t, ht⟩ : ∃ t, t = peekT I.L I.len nx := ⟨_, rfl⟩
  rw [← ht] at hp ⊢
  unfold tokV at hp
  clear ht
  by_cases hk : t.kind = 0
  · rw [if_pos hk]
    rw [hk] at hp
    go_enter Tryd.func62, Tryd.ntmps62
    go_wp2_with fail
    refine hp.mono ?_
    rintro e w1 ⟨rfl, hb⟩
    go_wp2_with fail
    refine (giveUp_any _ _ _).mono ?_
    rintro e w2 ⟨rfl, rfl⟩
    exact ⟨rfl, rfl, hb.alloc hb.size _⟩
  · rw [if_neg hk]
    have hkb : (t.kind == 0) = false := beq_eq_false_iff_ne.2 hk
    go_enter Tryd.func62, Tryd.ntmps62
    go_wp2_with fail
    refine hp.mono ?_
    rintro e w1 ⟨rfl, hb⟩
    go_wp2_with fail
    refine (giveUp_any _ _ _).mono ?_
    rintro e w2 ⟨rfl, rfl⟩
    exact ⟨rfl, rfl, hb.alloc hb.size _⟩

set_option maxHeartbeats 2000000 in
theorem allow_no {w : World} {b g cap : Nat} {I : Inp} {nx op : Nat} (h : Rd w b g cap I.L I.len nx op) (x y : Int) (hxy : y ≤ x) :
    Calls Tryd.prog 41 #[.pointer (some ⟨b, 0, none⟩), .int .i64 x, .int .i64 y] w fun e w' => e = upE 7 (I.pk nx).place ∧ Below w.heap.size w w' := by
  have hp := @peek_any _ _ _ _ _ _ _ _ h
  unfold Inp.pk
  obtain ⟨t, ht⟩ : ∃ t, t = peekT I.L I.len nx := ⟨_, rfl⟩
  rw [← ht] at hp ⊢
  unfold tokV at hp
  clear ht
  have hf := fun x w => tokF1 t x w
  go_enter Tryd.func41, Tryd.ntmps41
  go_wp2_with fail
  refine hp.mono ?_
  rintro e w1 ⟨rfl, hb⟩
  go_wp2_with fail
  refine (giveUp_any _ _ _).mono ?_
  rintro e w2 ⟨rfl, rfl⟩
  exact ⟨rfl, rfl, hb⟩

theorem take_any {w : World} {b g cap : Nat} {I : Inp} {nx op : Nat} (h : Rd w b g cap I.L I.len nx op) (s : ByteArray) (hs : s.data.toList ≠ []) :
    Calls Tryd.prog 52 #[.pointer (some ⟨b, 0, none⟩), .string s] w fun e w' => e = .returned (.bool (Ps.sees I s.data.toList nx)) ∧ Rd w' b g cap I.L I.len (if Ps.sees I s.data.toList nx = true then nx + 1 else nx) op ∧ Aside [b] w.heap.size w w' := by
  cases hq : Ps.sees I s.data.toList nx with
  | true => simpa using take_yes h s hq (sees_lt hq hs)
  | false =>
    refine (take_no h s hq).mono ?_
    rintro e w' ⟨rfl, hb⟩
    exact ⟨rfl, by simpa using h.below hb, aside hb⟩

set_option maxHeartbeats 2000000 in
theorem need_any {w : World} {b g cap : Nat} {I : Inp} {nx op : Nat} (h : Rd w b g cap I.L I.len nx op) (s : ByteArray) (hs : s.data.toList ≠ []) :
    Calls Tryd.prog 50 #[.pointer (some ⟨b, 0, none⟩), .string s] w (Post b g cap I op noV nx w (Ps.need I s.data.toList nx)) := by
  unfold Ps.need
  cases hq : Ps.sees I s.data.toList nx with
  | true =>
    refine (need_yes h s hq (sees_lt hq hs)).mono ?_
    rintro e w' ⟨rfl, h1, ha⟩
    exact ⟨ha, Nat.le_succ _, h1, _, rfl, rfl⟩
  | false =>
    simp only [Bool.false_eq_true, if_false]
    have hp := take_no h s hq
    go_enter Tryd.func50, Tryd.ntmps50
    go_wp2_with fail
    refine hp.mono ?_
    rintro e w1 ⟨rfl, hb⟩
    go_wp2_with fail
    refine (refuse_any (h.below hb)).mono ?_
    rintro e w2 ⟨rfl, ha⟩
    exact ⟨rfl, aside (hb.trans (ha.mono hb.size)), rfl⟩

set_option maxHeartbeats 2000000 in
theorem name_any {w : World} {b g cap : Nat} {I : Inp} {nx op : Nat} (h : Rd w b g cap I.L I.len nx op) :
    Calls Tryd.prog 51 #[.pointer (some ⟨b, 0, none⟩)] w (Post b g cap I op strV nx w (Ps.name I nx)) := by
  unfold Ps.name
  by_cases hk : (I.pk nx).kind = 2
  · rw [if_pos hk]
    refine (name_yes h hk (kind_lt (by rw [hk]; decide))).mono ?_
    rintro e w' ⟨rfl, h1, ha⟩
    exact ⟨ha, Nat.le_succ _, h1, _, rfl, rfl⟩
  · rw [if_neg hk]
    have hp := @peek_any _ _ _ _ _ _ _ _ h
    unfold Inp.pk at hk
    obtain ⟨t, ht⟩ : ∃ t, t = peekT I.L I.len nx := ⟨_, rfl⟩
    rw [← ht] at hp hk
    unfold tokV at hp
    have hkb : (t.kind == 2) = false := beq_eq_false_iff_ne.2 hk
    clear ht
    go_enter Tryd.func51, Tryd.ntmps51
    go_wp2_with fail
    refine hp.mono ?_
    rintro e w1 ⟨rfl, hb⟩
    go_wp2_with fail
    refine (refuse_any ((h.below hb).alloc _)).mono ?_
    rintro e w2 ⟨rfl, ha⟩
    exact ⟨rfl, aside ((hb.alloc hb.size _).trans (ha.mono (by simp; exact Nat.le_trans hb.size (Nat.le_succ _)))), rfl⟩

end Go.Proofs.YtmgaeapckfdbpaaDoor
