/-
  DERIVED. Nodes and programs as data; THE WALKS of the comparison of nodes and of programs.
-/
import Derived.Test.YtplofgkofkjhdaaGreatDoorSm10
namespace Go.Proofs.YtplofgkofkjhdaaGreatDoor
open Go.RowKit Go.IntWalk
set_option linter.unusedVariables false
set_option linter.unusedSimpArgs false
set_option maxRecDepth 100000

def neq (a b : Nd) : Bool := seq a.name b.name && (eqL seq a.sizes b.sizes && (eqL deq a.inn b.inn && (eqL deq a.out b.out && (eqL deq a.loc b.loc && eqL qeq a.eqs b.eqs))))
theorem neq_refl (a : Nd) : neq a a = true := by
  simp [neq, seq_refl, eqL_refl a.sizes (fun x _ => seq_refl x), eqL_refl a.inn (fun x _ => deq_refl x), eqL_refl a.out (fun x _ => deq_refl x), eqL_refl a.loc (fun x _ => deq_refl x), eqL_refl a.eqs (fun x _ => qeq_refl x)]

structure NdV where
  name : ByteArray
  place : Int
  a2 : Option Addr
  n2 : Nat
  c2 : Nat
  a3 : Option Addr
  n3 : Nat
  c3 : Nat
  a4 : Option Addr
  n4 : Nat
  c4 : Nat
  a5 : Option Addr
  n5 : Nat
  c5 : Nat
  a6 : Option Addr
  n6 : Nat
  c6 : Nat
def NdV.cells (x : NdV) : List Value := [.string x.name, .int .i64 x.place, .slice x.a2 x.n2 x.c2, .slice x.a3 x.n3 x.c3, .slice x.a4 x.n4 x.c4, .slice x.a5 x.n5 x.c5, .slice x.a6 x.n6 x.c6]
/-- a node's seven cells -/
structure HNd (ok : Nat → Prop) (w : World) (x : NdV) (n : Nd) : Prop where
  name : x.name = n.name
  place : x.place = n.place
  sizes : HNames ok w (.slice x.a2 x.n2 x.c2) n.sizes
  inn : HDes ok w (.slice x.a3 x.n3 x.c3) n.inn
  out : HDes ok w (.slice x.a4 x.n4 x.c4) n.out
  loc : HDes ok w (.slice x.a5 x.n5 x.c5) n.loc
  eqs : HEqs ok w (.slice x.a6 x.n6 x.c6) n.eqs
theorem HNd.keep {ok : Nat → Prop} {w w' : World} {x : NdV} {n : Nd} (h : HNd ok w x n) (hs : w.heap.size ≤ w'.heap.size) (hk : ∀ i, ok i → i < w.heap.size → w'.heap[i]? = w.heap[i]?) : HNd ok w' x n :=
  ⟨h.name, h.place, h.sizes.keep hs hk, h.inn.keep hs hk, h.out.keep hs hk, h.loc.keep hs hk, h.eqs.keep hs hk⟩
theorem HNd.under {ok : Nat → Prop} {w w' : World} {x : NdV} {n : Nd} (h : HNd ok w x n) (a : Below w.heap.size w w') : HNd ok w' x n := h.keep a.size fun i _ hl => a.block i hl
/-- seven cells of a node at a place -/
def NdAt (w : World) (b o : Nat) (y : NdV) : Prop :=
  w.cell? ⟨b, o, none⟩ = some (.string y.name) ∧ w.cell? ⟨b, o + 1, none⟩ = some (.int .i64 y.place) ∧ w.cell? ⟨b, o + 2, none⟩ = some (.slice y.a2 y.n2 y.c2) ∧ w.cell? ⟨b, o + 3, none⟩ = some (.slice y.a3 y.n3 y.c3) ∧
  w.cell? ⟨b, o + 4, none⟩ = some (.slice y.a4 y.n4 y.c4) ∧ w.cell? ⟨b, o + 5, none⟩ = some (.slice y.a5 y.n5 y.c5) ∧ w.cell? ⟨b, o + 6, none⟩ = some (.slice y.a6 y.n6 y.c6)
theorem NdAt.keep {w w' : World} {b o : Nat} {y : NdV} (h : NdAt w b o y) (hb : w'.heap[b]? = w.heap[b]?) : NdAt w' b o y := by
  have hc : ∀ q, w'.cell? ⟨b, q, none⟩ = w.cell? ⟨b, q, none⟩ := fun q => World.cell?_of_block (w := w) hb
  obtain ⟨h0, h1, h2, h3, h4, h5, h6⟩ := h
  exact ⟨(hc _).trans h0, (hc _).trans h1, (hc _).trans h2, (hc _).trans h3, (hc _).trans h4, (hc _).trans h5, (hc _).trans h6⟩
/-- a slice of nodes -/
def HNds (ok : Nat → Prop) (w : World) (v : Value) (l : List Nd) : Prop := ∃ C, Sl ok 7 w v l.length C ∧ ∀ i (h : i < l.length), ∃ x, C i = x.cells ∧ HNd ok w x l[i]
theorem HNds.keep {ok : Nat → Prop} {w w' : World} {v : Value} {l : List Nd} (h : HNds ok w v l) (hs : w.heap.size ≤ w'.heap.size) (hk : ∀ i, ok i → i < w.heap.size → w'.heap[i]? = w.heap[i]?) : HNds ok w' v l := by
  obtain ⟨C, h1, h2⟩ := h
  refine ⟨C, h1.keep hs hk, fun i hi => ?_⟩
  obtain ⟨x, e, hx⟩ := h2 i hi
  exact ⟨x, e, hx.keep hs hk⟩
theorem HNds.under {ok : Nat → Prop} {w w' : World} {v : Value} {l : List Nd} (h : HNds ok w v l) (a : Below w.heap.size w w') : HNds ok w' v l := h.keep a.size fun i _ hl => a.block i hl
theorem HNds.at {ok : Nat → Prop} {w : World} {v : Value} {l : List Nd} (h : HNds ok w v l) :
    ∃ ao cap, v = .slice ao l.length cap ∧ l.length ≤ cap ∧ cap ≤ maxLen ∧ ∀ i (h : i < l.length), ∃ b o y, ao = some ⟨b, o, none⟩ ∧ b < w.heap.size ∧ NdAt w b (o + i * 7) y ∧ HNd ok w y l[i] := by
  obtain ⟨C, ⟨ao, cap, hv, h1, h2, h3⟩, hC⟩ := h
  refine ⟨ao, cap, hv, h1, h2, fun i hi => ?_⟩
  obtain ⟨b, o, ha, hob, hb, hc⟩ := h3 (by omega)
  obtain ⟨x, hx, hq⟩ := hC i hi
  have hcc := (hc i hi).2
  rw [hx] at hcc
  exact ⟨b, o, x, ha, hb, ⟨hcc 0 (by decide), hcc 1 (by decide), hcc 2 (by decide), hcc 3 (by decide), hcc 4 (by decide), hcc 5 (by decide), hcc 6 (by decide)⟩, hq⟩

set_option maxHeartbeats 8000000 in
theorem sameNode_any {ok ok' : Nat → Prop} {w : World} {x y : NdV} {a b : Nd} (hx : HNd ok w x a) (hy : HNd ok' w y b) :
    Calls Tryz.prog 28 #[.agg #[.string x.name, .int .i64 x.place, .slice x.a2 x.n2 x.c2, .slice x.a3 x.n3 x.c3, .slice x.a4 x.n4 x.c4, .slice x.a5 x.n5 x.c5, .slice x.a6 x.n6 x.c6], .agg #[.string y.name, .int .i64 y.place, .slice y.a2 y.n2 y.c2, .slice y.a3 y.n3 y.c3, .slice y.a4 y.n4 y.c4, .slice y.a5 y.n5 y.c5, .slice y.a6 y.n6 y.c6]] w fun e w' => e = .returned (.bool (neq a b)) ∧ Below w.heap.size w w' := by
  obtain ⟨R, hR⟩ : ∃ R, R = neq a b := ⟨_, rfl⟩
  rw [← hR]
  have h0' : seq a.name b.name = (x.name.toList == y.name.toList) := by rw [hx.name, hy.name]; rfl
  unfold neq at hR
  rw [h0'] at hR
  clear h0'
  have HR := hide hR
  clear hR
  have hB : ∀ o o', Below w.heap.size w ((w.alloc o).alloc o') := fun o o' => ((Below.refl _ w).alloc (Nat.le_refl _) o).alloc (by simp) o'
  have sizes0 := hx.sizes
  have sizes1 := hy.sizes
  have inn0 := hx.inn
  have inn1 := hy.inn
  have out0 := hx.out
  have out1 := hy.out
  have loc0 := hx.loc
  have loc1 := hy.loc
  have eqs0 := hx.eqs
  have eqs1 := hy.eqs
  clear hx hy
  cases h0 : (x.name.toList == y.name.toList)
  · go_enter Tryz.func28, Tryz.ntmps28
    go_wp2
    go_ret
    exact ⟨ret_bool (by rw [HR.out, h0]; rfl), hB _ _⟩
  · go_enter Tryz.func28, Tryz.ntmps28
    go_wp2_with fail
    refine (equalStr_any (sizes0.under (hB _ _)) (sizes1.under (hB _ _))).mono ?_
    rintro e w1 ⟨rfl, b1⟩
    have hb1 := (hB _ _).trans (b1.mono (by simp; omega))
    have k1 := (aside b1 (S := [])).keep (keep_alloc (heap_new w _) _) (by simp; omega) (by simp)
    have k2 := (aside b1 (S := [])).keep (heap_new (w.alloc _) _) (by simp) (by simp)
    have e2 : ∀ o : Obj, (w.alloc o).heap.size = w.heap.size + 1 := fun o => by simp
    rw [e2] at k2
    have z1 : w.heap.size + 1 + 1 ≤ w1.heap.size := by simpa using b1.size
    clear b1
    cases h1 : eqL seq a.sizes b.sizes
    · go_wp2
      go_ret
      exact ⟨ret_bool (by rw [HR.out, h0, h1]; rfl), hb1⟩
    · have p := cell_of k1 3
      have q := cell_of k2 3
      simp at p q
      go_wp2_with fail
      refine (equalDecls_any (inn0.under hb1) (inn1.under hb1)).mono ?_
      rintro e w2 ⟨rfl, b2⟩
      have hb2 := hb1.trans (b2.mono hb1.size)
      replace k1 := (aside b2 (S := [])).keep k1 (by omega) (by simp)
      replace k2 := (aside b2 (S := [])).keep k2 (by omega) (by simp)
      have z2 := b2.size
      clear b2 p q
      cases h2 : eqL deq a.inn b.inn
      · go_wp2
        go_ret
        exact ⟨ret_bool (by rw [HR.out, h0, h1, h2]; rfl), hb2⟩
      · have p := cell_of k1 4
        have q := cell_of k2 4
        simp at p q
        go_wp2_with fail
        refine (equalDecls_any (out0.under hb2) (out1.under hb2)).mono ?_
        rintro e w3 ⟨rfl, b3⟩
        have hb3 := hb2.trans (b3.mono hb2.size)
        replace k1 := (aside b3 (S := [])).keep k1 (by omega) (by simp)
        replace k2 := (aside b3 (S := [])).keep k2 (by omega) (by simp)
        have z3 := b3.size
        clear b3 p q
        cases h3 : eqL deq a.out b.out
        · go_wp2
          go_ret
          exact ⟨ret_bool (by rw [HR.out, h0, h1, h2, h3]; rfl), hb3⟩
        · have p := cell_of k1 5
          have q := cell_of k2 5
          simp at p q
          go_wp2_with fail
          refine (equalDecls_any (loc0.under hb3) (loc1.under hb3)).mono ?_
          rintro e w4 ⟨rfl, b4⟩
          have hb4 := hb3.trans (b4.mono hb3.size)
          replace k1 := (aside b4 (S := [])).keep k1 (by omega) (by simp)
          replace k2 := (aside b4 (S := [])).keep k2 (by omega) (by simp)
          have z4 := b4.size
          clear b4 p q
          cases h4 : eqL deq a.loc b.loc
          · go_wp2
            go_ret
            exact ⟨ret_bool (by rw [HR.out, h0, h1, h2, h3, h4]; rfl), hb4⟩
          · have p := cell_of k1 6
            have q := cell_of k2 6
            simp at p q
            go_wp2_with fail
            refine (equalEqs_any (eqs0.under hb4) (eqs1.under hb4)).mono ?_
            rintro e w5 ⟨rfl, b5⟩
            have hb5 := hb4.trans (b5.mono hb4.size)
            replace k1 := (aside b5 (S := [])).keep k1 (by omega) (by simp)
            replace k2 := (aside b5 (S := [])).keep k2 (by omega) (by simp)
            have z5 := b5.size
            clear b5 p q
            go_wp2
            go_ret
            exact ⟨ret_bool (by rw [HR.out, h0, h1, h2, h3, h4]; simp), hb5⟩

set_option maxHeartbeats 8000000 in
theorem equalNodes_any {ok ok' : Nat → Prop} {w : World} {v u : Value} {l r : List Nd} (hl : HNds ok w v l) (hr : HNds ok' w u r) :
    Calls Tryz.prog 27 #[v, u, .func (.func 28) #[] #[]] w fun e w' => e = .returned (.bool (eqL neq l r)) ∧ Below w.heap.size w w' := by
  obtain ⟨ao, cap, rfl, hc1, hc2, hat⟩ := hl.at
  obtain ⟨ao', cap', rfl, hd1, hd2, hat'⟩ := hr.at
  unfold maxLen at hc2 hd2
  obtain ⟨R, hR⟩ : ∃ R, R = eqL neq l r := ⟨_, rfl⟩
  rw [← hR]
  have HR := hide hR
  clear hR hl hr
  obtain ⟨n, hn⟩ : ∃ n, n = l.length := ⟨_, rfl⟩
  obtain ⟨m, hm⟩ : ∃ m, m = r.length := ⟨_, rfl⟩
  rw [← hn] at hc1 ⊢
  rw [← hm] at hd1 ⊢
  have HN := hide hn
  have HM := hide hm
  by_cases hlen : n = m
  · subst hlen
    have hq : ((n : Int) != (n : Int)) = false := by simp
    clear hn hm
    go_enter Tryz.func27, Tryz.ntmps27
    go_wp2
    go_loopg [17] n (fun k v wr => ∃ i, i ≤ n ∧ k = n - i ∧ v = .int .i64 (i : Nat) ∧ Hid (∀ j (h : j < l.length) (h' : j < r.length), j < i → neq l[j] r[j] = true) ∧ Below w.heap.size w wr)
    case atStart => exact ⟨0, Nat.zero_le _, rfl, rfl, fun j _ _ h => absurd h (Nat.not_lt_zero _), Below.refl _ _⟩
    case round =>
      obtain ⟨i, hi, rfl, rfl, H, hbr⟩ := hrel
      by_cases hlt : i < n
      · have hil : i < l.length := by have := HN.out; omega
        have hir : i < r.length := by have := HM.out; omega
        obtain ⟨b, o, x, rfl, hb, hxa, hx⟩ := hat i hil
        obtain ⟨b', o', y, rfl, hb', hya, hy⟩ := hat' i hir
        obtain ⟨c0, c1, c2, c3, c4, c5, c6⟩ := hxa.keep (hbr.block b hb)
        obtain ⟨d0, d1, d2, d3, d4, d5, d6⟩ := hya.keep (hbr.block b' hb')
        have zb' : b' < wr.heap.size := Nat.lt_of_lt_of_le hb' hbr.size
        have f0 := fun o => ((Below.refl _ wr).alloc (Nat.le_refl _) o).cell (p := ⟨b', o' + i * 7, none⟩) zb' |>.trans d0
        have f1 := fun o => ((Below.refl _ wr).alloc (Nat.le_refl _) o).cell (p := ⟨b', o' + i * 7 + 1, none⟩) zb' |>.trans d1
        have f2 := fun o => ((Below.refl _ wr).alloc (Nat.le_refl _) o).cell (p := ⟨b', o' + i * 7 + 2, none⟩) zb' |>.trans d2
        have f3 := fun o => ((Below.refl _ wr).alloc (Nat.le_refl _) o).cell (p := ⟨b', o' + i * 7 + 3, none⟩) zb' |>.trans d3
        have f4 := fun o => ((Below.refl _ wr).alloc (Nat.le_refl _) o).cell (p := ⟨b', o' + i * 7 + 4, none⟩) zb' |>.trans d4
        have f5 := fun o => ((Below.refl _ wr).alloc (Nat.le_refl _) o).cell (p := ⟨b', o' + i * 7 + 5, none⟩) zb' |>.trans d5
        have f6 := fun o => ((Below.refl _ wr).alloc (Nat.le_refl _) o).cell (p := ⟨b', o' + i * 7 + 6, none⟩) zb' |>.trans d6
        have hB : ∀ o o', Below wr.heap.size wr ((wr.alloc o).alloc o') := fun o o' => ((Below.refl _ wr).alloc (Nat.le_refl _) o).alloc (by simp) o'
        have g1 := hx.under hbr
        have g2 := hy.under hbr
        clear hxa hya hx hy
        clear hat hat'
        cases hxy : neq l[i] r[i]
        ·
          go_wp2_with fail
          refine (sameNode_any (g1.under (hB _ _)) (g2.under (hB _ _))).mono ?_
          rintro e w1 ⟨rfl, b1⟩
          rw [hxy]
          all_goals
            have hb1 := hbr.trans (((hB _ _).trans (b1.mono (by simp; omega))).mono hbr.size)
            go_wp2
            go_ret
            refine ⟨ret_bool ?_, hb1⟩
            rw [HR.out]
            exact (eqL_bad i hil hir hxy).symm
        ·
          go_wp2_with fail
          refine (sameNode_any (g1.under (hB _ _)) (g2.under (hB _ _))).mono ?_
          rintro e w1 ⟨rfl, b1⟩
          rw [hxy]
          all_goals
            have hb1 := hbr.trans (((hB _ _).trans (b1.mono (by simp; omega))).mono hbr.size)
            go_wp2
            go_roundg (n - (i + 1))
            case measure => omega
            case rel =>
              refine ⟨i + 1, by omega, rfl, by go_num, fun j hj hj' hji => ?_, hb1⟩
              by_cases e : j = i
              · subst e
                exact hxy
              · exact H.out j hj hj' (by omega)
      · have hie : i = n := by omega
        subst hie
        clear hat hat'
        go_wp2
        go_ret
        refine ⟨ret_bool ?_, hbr⟩
        rw [HR.out]
        exact (eqL_all (by rw [← HN.out, ← HM.out]) (fun j hj hj' => H.out j hj hj' (by rw [HN.out]; exact hj))).symm
  · have hq : ((n : Int) != (m : Int)) = true := by simp; omega
    clear hat hat' hn hm
    go_enter Tryz.func27, Tryz.ntmps27
    go_wp2
    go_ret
    refine ⟨ret_bool ?_, Below.refl _ _⟩
    rw [HR.out]
    exact (eqL_len (by rw [← HN.out, ← HM.out]; exact hlen)).symm

set_option maxHeartbeats 2000000 in
theorem same_any {ok ok' : Nat → Prop} {w : World} {a a' : Option Addr} {n n' c c' : Nat} {l r : List Nd} (hl : HNds ok w (.slice a n c) l) (hr : HNds ok' w (.slice a' n' c') r) :
    Calls Tryz.prog 10 #[.agg #[.slice a n c], .agg #[.slice a' n' c']] w fun e w' => e = .returned (.bool (eqL neq l r)) ∧ Below w.heap.size w w' := by
  have hB : ∀ o o', Below w.heap.size w ((w.alloc o).alloc o') := fun o o' => ((Below.refl _ w).alloc (Nat.le_refl _) o).alloc (by simp) o'
  go_enter Tryz.func10, Tryz.ntmps10
  go_wp2_with fail
  refine (equalNodes_any (hl.under (hB _ _)) (hr.under (hB _ _))).mono ?_
  rintro e w1 ⟨rfl, b1⟩
  have hb1 := (hB _ _).trans (b1.mono (by simp; omega))
  go_wp2
  go_ret
  exact ⟨rfl, hb1⟩

end Go.Proofs.YtplofgkofkjhdaaGreatDoor
