/-
  DERIVED. Nodes and programs as data; THE WALKS of the comparison of nodes and of programs.
-/
import Derived.Test.YtmgaeapckfdbpaaDoorM08
import Derived.Test.YtmgaeapckfdbpaaDoorM06
namespace Go.Proofs.YtmgaeapckfdbpaaDoor
open Go.RowKit Go.IntWalk
set_option linter.unusedVariables false
set_option linter.unusedSimpArgs false
set_option maxRecDepth 100000

def neq (a b : Nd) : Bool := seq a.name b.name && (eqL seq a.sizes b.sizes && (eqL deq a.inn b.inn && (eqL deq a.out b.out && (eqL deq a.loc b.loc && eqL qeq a.eqs b.eqs))))
theorem neq_refl (a : Nd) : neq a a = true := by
  simp [neq, seq_refl, eqL_refl a.sizes (fun x _ => seq_refl x), eqL_refl a.inn (fun x _ => deq_refl x), eqL_refl a.out (fun x _ => deq_refl x), eqL_refl a.loc (fun x _ => deq_refl x), eqL_refl a.eqs (fun x _ => qeq_refl x)]

structure NdV where
  name : ByteArray
  place : Int
  a2 : Option Addr
  n2 : Nat
  c2 : Nat
  a3 : Option Addr
  n3 : Nat
  c3 : Nat
  a4 : Option Addr
  n4 : Nat
  c4 : Nat
  a5 : Option Addr
  n5 : Nat
  c5 : Nat
  a6 : Option Addr
  n6 : Nat
  c6 : Nat
def NdV.cells (x : NdV) : List Value := [.string x.name, .int .i64 x.place, .slice x.a2 x.n2 x.c2, .slice x.a3 x.n3 x.c3, .slice x.a4 x.n4 x.c4, .slice x.a5 x.n5 x.c5, .slice x.a6 x.n6 x.c6]
/-- a node's seven cells -/
structure HNd (ok : Nat → Prop) (w : World) (x : NdV) (n : Nd) : Prop where
  name : x.name = n.name
  place : x.place = n.place
  sizes : HNames ok w (.slice x.a2 x.n2 x.c2) n.sizes
  inn : HDes ok w (.slice x.a3 x.n3 x.c3) n.inn
  out : HDes ok w (.slice x.a4 x.n4 x.c4) n.out
  loc : HDes ok w (.slice x.a5 x.n5 x.c5) n.loc
  eqs : HEqs ok w (.slice x.a6 x.n6 x.c6) n.eqs
theorem HNd.keep {ok : Nat → Prop} {w w' : World} {x : NdV} {n : Nd} (h : HNd ok w x n) (hs : w.heap.size ≤ w'.heap.size) (hk : ∀ i, ok i → i < w.heap.size → w'.heap[i]? = w.heap[i]?) : HNd ok w' x n :=
  ⟨h.name, h.place, h.sizes.keep hs hk, h.inn.keep hs hk, h.out.keep hs hk, h.loc.keep hs hk, h.eqs.keep hs hk⟩
theorem HNd.under {ok : Nat → Prop} {w w' : World} {x : NdV} {n : Nd} (h : HNd ok w x n) (a : Below w.heap.size w w') : HNd ok w' x n := h.keep a.size fun i _ hl => a.block i hl
/-- seven cells of a node at a place -/
def NdAt (w : World) (b o : Nat) (y : NdV) : Prop :=
  w.cell? ⟨b, o, none⟩ = some (.string y.name) ∧ w.cell? ⟨b, o + 1, none⟩ = some (.int .i64 y.place) ∧ w.cell? ⟨b, o + 2, none⟩ = some (.slice y.a2 y.n2 y.c2) ∧ w.cell? ⟨b, o + 3, none⟩ = some (.slice y.a3 y.n3 y.c3) ∧
  w.cell? ⟨b, o + 4, none⟩ = some (.slice y.a4 y.n4 y.c4) ∧ w.cell? ⟨b, o + 5, none⟩ = some (.slice y.a5 y.n5 y.c5) ∧ w.cell? ⟨b, o + 6, none⟩ = some (.slice y.a6 y.n6 y.c6)
theorem NdAt.keep {w w' : World} {b o : Nat} {y : NdV} (h : NdAt w b o y) (hb : w'.heap[b]? = w.heap[b]?) : NdAt w' b o y := by
  have hc : ∀ q, w'.cell? ⟨b, q, none⟩ = w.cell? ⟨b, q, none⟩ := fun q => World.cell?_of_block (w := w) hb
  obtain ⟨h0, h1, h2, h3, h4, h5, h6⟩ := h
  exact ⟨(hc _).trans h0, (hc _).trans h1, (hc _).trans h2, (hc _).trans h3, (hc _).trans h4, (hc _).trans h5, (hc _).trans h6⟩
/-- a slice of nodes -/
def HNds (ok : Nat → Prop) (w : World) (v : Value) (l : List Nd) : Prop := ∃ C, Sl ok 7 w v l.length C ∧ ∀ i (h : i < l.length), ∃ x, C i = x.cells ∧ HNd ok w x l[i]
theorem HNds.keep {ok : Nat → Prop} {w w' : World} {v : Value} {l : List Nd} (h : HNds ok w v l) (hs : w.heap.size ≤ w'.heap.size) (hk : ∀ i, ok i → i < w.heap.size → w'.heap[i]? = w.heap[i]?) : HNds ok w' v l := by
  obtain ⟨C, h1, h2⟩ := h
  refine ⟨C, h1.keep hs hk, fun i hi => ?_⟩
  obtain ⟨x, e, hx⟩ := h2 i hi
  exact ⟨x, e, hx.keep hs hk⟩
theorem HNds.under {ok : Nat → Prop} {w w' : World} {v : Value} {l : List Nd} (h : HNds ok w v l) (a : Below w.heap.size w w') : HNds ok w' v l := h.keep a.size fun i _ hl => a.block i hl
theorem HNds.at {ok : Nat → Prop} {w : World} {v : Value} {l : List Nd} (h : HNds ok w v l) :
    ∃ ao cap, v = .slice ao l.length cap ∧ l.length ≤ cap ∧ cap ≤ maxLen ∧ ∀ i (h : i < l.length), ∃ b o y, ao = some ⟨b, o, none⟩ ∧ b < w.heap.size ∧ NdAt w b (o + i * 7) y ∧ HNd ok w y l[i] := by
  obtain ⟨C, ⟨ao, cap, hv, h1, h2, h3⟩, hC⟩ := h
  refine ⟨ao, cap, hv, h1, h2, fun i hi => ?_⟩
  obtain ⟨b, o, ha, hob, hb, hc⟩ := h3 (by omega)
  obtain ⟨x, hx, hq⟩ := hC i hi
  have hcc := (hc i hi).2
  rw [hx] at hcc
  exact ⟨b, o, x, ha, hb, ⟨hcc 0 (by decide), hcc 1 (by decide), hcc 2 (by decide), hcc 3 (by decide), hcc 4 (by decide), hcc 5 (by decide), hcc 6 (by decide)⟩, hq⟩

set_option maxHeartbeats 8000000 in
theorem sameNode_any {ok ok' : Nat → Prop} {w : World} {x y : NdV} {a b : Nd} (hx : HNd ok w x a) (hy : HNd ok' w y b) :
    Calls Tryd.prog 22 #[.agg #[.string x.name, .int .i64 x.place, .slice x.a2 x.n2 x.c2, .slice x.a3 x.n3 x.c3, .slice x.a4 x.n4 x.c4, .slice x.a5 x.n5 x.c5, .slice x.a6 x.n6 x.c6], .agg #[.string y.name, .int .i64 y.place, .slice y.a2 y.n2 y.c2, .slice y.a3 y.n3 y.c3, .slice y.a4 y.n4 y.c4, .slice y.a5 y.n5 y.c5, .slice y.a6 y.n6 y.c6]] w fun e w' => e = .returned (.bool (neq a b)) ∧ Below w.heap.size w w' := by
  obtain ⟨R, hR⟩ : ∃ R, R = neq a b := ⟨_, rfl⟩
  rw [← hR]
  have h0' : seq a.name b.name = (x.name.toList == y.name.toList) := by rw [hx.name, hy.name]; rfl
  unfold neq at hR
  rw [h0'] at hR
  clear h0'
  have HR := hide hR
  clear hR
  have hB : ∀ o o', Below w.heap.size w ((w.alloc o).alloc o') := fun o o' => ((Below.refl _ w).alloc (Nat.le_refl _) o).alloc (by simp) o'
  have sizes0 := hx.sizes
  have sizes1 := hy.sizes
  have inn0 := hx.inn
  have inn1 := hy.inn
  have out0 := hx.out
  have out1 := hy.out
  have loc0 := hx.loc
  have loc1 := hy.loc
  have eqs0 := hx.eqs
  have eqs1 := hy.eqs
  clear hx hy
  cases h0 : (x.name.toList == y.name.toList)
  · go_enter Tryd.func22, Tryd.ntmps22
    go_wp2
    go_ret
    exact ⟨ret_bool (by rw [HR.out, h0]; rfl), hB _ _⟩
  · go_enter Tryd.func22, Tryd.ntmps22
    go_wp2_with fail
    refine (equalStr_any (sizes0.under (hB _ _)) (sizes1.under (hB _ _))).mono ?_
    rintro e w1 ⟨rfl, b1⟩
    have hb1 := (hB _ _).trans (b1.mono (by simp; omega))
    have k1 := (aside b1 (S := [])).keep (keep_alloc (heap_new w _) _) (by simp; omega) (by simp)
    have k2 := (aside b1 (S := [])).keep (heap_new (w.alloc _) _) (by simp) (by simp)
    have e2 : ∀ o : Obj, (w.alloc o).heap.size = w.heap.size + 1 := fun o => by simp
    rw [e2] at k2
    have z1 : w.heap.size + 1 + 1 ≤ w1.heap.size := by simpa using b1.size
    clear b1
    cases h1 : eqL seq a.sizes b.sizes
    · go_wp2
      go_ret
      exact ⟨ret_bool (by rw [HR.out, h0, h1]; rfl), hb1⟩
    · have p := cell_of k1 3
      have q := cell_of k2 3
      simp at p q
      go_wp2_with fail
      refine (equalDecls_any (inn0.under hb1) (inn1.under hb1)).mono ?_
      rintro e w2 ⟨rfl, b2⟩
      have hb2 := hb1.trans (b2.mono hb1.size)
      replace k1 := (aside b2 (S := [])).keep k1 (by omega) (by simp)
      replace k2 := (aside b2 (S := [])).keep k2 (by omega) (by simp)
      have z2 := b2.size
      clear b2 p q
      cases h2 : eqL deq a.inn b.inn
      · go_wp2
        go_ret
        exact ⟨ret_bool (by rw [HR.out, h0, h1, h2]; rfl), hb2⟩
      · have p := cell_of k1 4
        have q := cell_of k2 4
        simp at p q
        go_wp2_with fail
        refine (equalDecls_any (out0.under hb2) (out1.under hb2)).mono ?_
        rintro e w3 ⟨rfl, b3⟩
        have hb3 := hb2.trans (b3.mono hb2.size)
        replace k1 := (aside b3 (S := [])).keep k1 (by omega) (by simp)
        replace k2 := (aside b3 (S := [])).keep k2 (by omega) (by simp)
        have z3 := b3.size
        clear b3 p q
        cases h3 : eqL deq a.out b.out
        · go_wp2
          go_ret
          exact ⟨ret_bool (by rw [HR.out, h0, h1, h2, h3]; rfl), hb3⟩
        · have p := cell_of k1 5
          have q := cell_of k2 5
          simp at p q
          go_wp2_with fail
          refine (equalDecls_any (loc0.under hb3) (loc1.under hb3)).mono ?_
          rintro e w4 ⟨rfl, b4⟩
          have hb4 := hb3.trans (b4.mono hb3.size)
          replace k1 := (aside b4 (S := [])).keep k1 (by omega) (by simp)
          replace k2 := (aside b4 (S := [])).keep k2 (by omega) (by simp)
          have z4 := b4.size
          clear b4 p q
          cases h4 : eqL deq a.loc b.loc
          · go_wp2
            go_ret
            exact ⟨ret_bool (by rw [HR.out, h0, h1, h2, h3, h4]; rfl), hb4⟩
          · have p := cell_of k1 6
            have q := cell_of k2 6
            simp at p q
            go_wp2_with fail
            refine (equalEqs_any (eqs0.under hb4) (eqs1.under hb4)).mono ?_
            rintro e w5 ⟨rfl, b5⟩
            have hb5 := hb4.trans (b5.mono hb4.size)
            replace k1 := (aside b5 (S := [])).keep k1 (by omega) (by simp)
            replace k2 := (aside b5 (S := [])).keep k2 (by omega) (by simp)
            have z5 := b5.size
            clear b5 p q
            go_wp2
            go_ret
            exact ⟨ret_bool (by rw [HR.out, h0, h1, h2, h3, h4]; simp), hb5⟩

set_option maxHeartbeats 8000000 in
theorem equalNodes_any {ok ok' : Nat → Prop} {w : World} {v u : Value} {l r : List Nd} (hl : HNds ok w v l) (hr : HNds ok' w u r) :
    Calls Tryd.prog 21 #[v, u, .func (.func 22) #[] #[]] w fun e w' => e = .returned (.bool (eqL neq l r)) ∧ Below w.heap.size w w' := by
  obtain ⟨ao, cap, rfl, hc1, hc2, hat⟩ := hl.at
  obtain ⟨ao', cap', rfl, hd1, hd2, hat'⟩ := hr.at
  unfold maxLen at hc2 hd2
  obtain ⟨R, hR⟩ : ∃ R, R = eqL neq l r := ⟨_, rfl⟩
  rw [← hR]
  have HR := hide hR
  clear hR hl hr
  obtain ⟨n, hn⟩ : ∃ n, n = l.length := ⟨_, rfl⟩
  obtain ⟨m, hm⟩ : ∃ m, m = r.length := ⟨_, rfl⟩
  rw [← hn] at hc1 ⊢
  rw [← hm] at hd1 ⊢
  have HN := hide hn
  have HM := hide hm
  by_cases hlen : n = m
  · subst hlen
    have hq : ((n : Int) != (n : Int)) = false := by simp
    clear hn hm
    go_enter Tryd.func21, Tryd.ntmps21
    go_wp2
    go_loopg [17] n (fun k v wr => ∃ i, i ≤ n ∧ k = n - i ∧ v = .int .i64 (i : Nat) ∧ Hid (∀ j (h : j < l.length) (h' : j < r.length), j < i → neq l[j] r[j] = true) ∧ Below w.heap.size w wr)
    case atStart => exact ⟨0, Nat.zero_le _, rfl, rfl, fun j _ _ h => absurd h (Nat.not_lt_zero _), Below.refl _ _⟩
    case round =>
      obtain ⟨i, hi, rfl, rfl, H, hbr⟩ := hrel
      by_cases hlt : i < n
      · have hil : i < l.length := by have := HN.out; omega
        have hir : i < r.length := by have := HM.out; omega
        obtain ⟨b, o, x, rfl, hb, hxa, hx⟩ := hat i hil
        obtain ⟨b', o', y, rfl, hb', hya, hy⟩ := hat' i hir
        obtain ⟨c0, c1, c2, c3, c4, c5, c6⟩ := hxa.keep (hbr.block b hb)
        obtain ⟨d0, d1, d2, d3, d4, d5, d6⟩ := hya.keep (hbr.block b' hb')
        have zb' : b' < wr.heap.size := Nat.lt_of_lt_of_le hb' hbr.size
        have f0 := fun o => ((Below.refl _ wr).alloc (Nat.le_refl _) o).cell (p := ⟨b', o' + i * 7, none⟩) zb' |>.trans d0
        have f1 := fun o => ((Below.refl _ wr).alloc (Nat.le_refl _) o).cell (p := ⟨b', o' + i * 7 + 1, none⟩) zb' |>.trans d1
        have f2 := fun o => ((Below.refl _ wr).alloc (Nat.le_refl _) o).cell (p := ⟨b', o' + i * 7 + 2, none⟩) zb' |>.trans d2
        have f3 := fun o => ((Below.refl _ wr).alloc (Nat.le_refl _) o).cell (p := ⟨b', o' + i * 7 + 3, none⟩) zb' |>.trans d3
        have f4 := fun o => ((Below.refl _ wr).alloc (Nat.le_refl _) o).cell (p := ⟨b', o' + i * 7 + 4, none⟩) zb' |>.trans d4
        have f5 := fun o => ((Below.refl _ wr).alloc (Nat.le_refl _) o).cell (p := ⟨b', o' + i * 7 + 5, none⟩) zb' |>.trans d5
        have f6 := fun o => ((Below.refl _ wr).alloc (Nat.le_refl _) o).cell (p := ⟨b', o' + i * 7 + 6, none⟩) zb' |>.trans d6
        have hB : ∀ o o', Below wr.heap.size wr ((wr.alloc o).alloc o') := fun o o' => ((Below.refl _ wr).alloc (Nat.le_refl _) o).alloc (by simp) o'
        have g1 := hx.under hbr
        have g2 := hy.under hbr
        clear hxa hya hx hy
        clear hat hat'
        cases hxy : neq l[i] r[i]
        ·
          go_wp2_with fail
          refine (sameNode_any (g1.under (hB _ _)) (g2.under (hB _ _))).mono ?_
          rintro e w1 ⟨rfl, b1⟩
          rw [hxy]
          all_goals
            have hb1 := hbr.trans (((hB _ _).trans (b1.mono (by simp; omega))).mono hbr.size)
            go_wp2
            go_ret
            refine ⟨ret_bool ?_, hb1⟩
            rw [HR.out]
            exact (eqL_bad i hil hir hxy).symm
        ·
          go_wp2_with fail
          refine (sameNode_any (g1.under (hB _ _)) (g2.under (hB _ _))).mono ?_
          rintro e w1 ⟨rfl, b1⟩
          rw [hxy]
          all_goals
            have hb1 := hbr.trans (((hB _ _).trans (b1.mono (by simp; omega))).mono hbr.size)
            go_wp2
            go_roundg (n - (i + 1))
            case measure => omega
            case rel =>
              refine ⟨i + 1, by omega, rfl, by go_num, fun j hj hj' hji => ?_, hb1⟩
              by_cases e : j = i
              · subst e
                exact hxy
              · exact H.out j hj hj' (by omega)
      · have hie : i = n := by omega
        subst hie
        clear hat hat'
        go_wp2
        go_ret
        refine ⟨ret_bool ?_, hbr⟩
        rw [HR.out]
        exact (eqL_all (by rw [← HN.out, ← HM.out]) (fun j hj hj' => H.out j hj hj' (by rw [HN.out]; exact hj))).symm
  · have hq : ((n : Int) != (m : Int)) = true := by simp; omega
    clear hat hat' hn hm
    go_enter Tryd.func21, Tryd.ntmps21
    go_wp2
    go_ret
    refine ⟨ret_bool ?_, Below.refl _ _⟩
    rw [HR.out]
    exact (eqL_len (by rw [← HN.out, ← HM.out]; exact hlen)).symm

set_option maxHeartbeats 2000000 in
theorem same_any {ok ok' : Nat → Prop} {w : World} {a a' : Option Addr} {n n' c c' : Nat} {l r : List Nd} (hl : HNds ok w (.slice a n c) l) (hr : HNds ok' w (.slice a' n' c') r) :
    Calls Tryd.prog 8 #[.agg #[.slice a n c], .agg #[.slice a' n' c']] w fun e w' => e = .returned (.bool (eqL neq l r)) ∧ Below w.heap.size w w' := by
  have hB : ∀ o o', Below w.heap.size w ((w.alloc o).alloc o') := fun o o' => ((Below.refl _ w).alloc (Nat.le_refl _) o).alloc (by simp) o'
  go_enter Tryd.func8, Tryd.ntmps8
  go_wp2_with fail
  refine (equalNodes_any (hl.under (hB _ _)) (hr.under (hB _ _))).mono ?_
  rintro e w1 ⟨rfl, b1⟩
  have hb1 := (hB _ _).trans (b1.mono (by simp; omega))
  go_wp2
  go_ret
  exact ⟨rfl, hb1⟩

end Go.Proofs.YtmgaeapckfdbpaaDoor


/-
  DERIVED. Rows of things in memory of the call's own; THE WALKS of the copies of names and of sizes.
-/
namespace Go.Proofs.YtmgaeapckfdbpaaDoor
open Go.RowKit Go.IntWalk
set_option linter.unusedVariables false
set_option linter.unusedSimpArgs false
set_option maxRecDepth 100000

/-- the cells of the first n things, one behind the other -/
def flat (C : Nat → List Value) : Nat → List Value
  | 0 => []
  | n + 1 => flat C n ++ C n
theorem flat_len {C : Nat → List Value} {k : Nat} : ∀ n, (∀ i, i < n → (C i).length = k) → (flat C n).length = n * k
  | 0, _ => by simp [flat]
  | n + 1, h => by
    rw [flat, List.length_append, flat_len n (fun i hi => h i (by omega)), h n (by omega), Nat.succ_mul]
theorem flat_get {C : Nat → List Value} {k : Nat} : ∀ n, (∀ i, i < n → (C i).length = k) → ∀ i j, i < n → j < k → (flat C n)[i * k + j]? = (C i)[j]?
  | 0, _, i, j, hi, _ => absurd hi (Nat.not_lt_zero _)
  | n + 1, h, i, j, hi, hj => by
    have hl := flat_len n (fun i hi => h i (by omega)) (C := C) (k := k)
    rw [flat]
    by_cases e : i = n
    · subst e
      rw [List.getElem?_append_right (by omega), hl]
      congr 1
      omega
    · have hin : i < n := by omega
      have : i * k + j < n * k := by
        have : (i + 1) * k ≤ n * k := Nat.mul_le_mul_right k (by omega)
        rw [Nat.succ_mul] at this
        omega
      rw [List.getElem?_append_left (by omega)]
      exact flat_get n (fun i hi => h i (by omega)) i j hin hj
theorem flat_mem {C : Nat → List Value} : ∀ n u, u ∈ flat C n → ∃ i, i < n ∧ u ∈ C i
  | 0, u, h => by simp [flat] at h
  | n + 1, u, h => by
    rw [flat, List.mem_append] at h
    rcases h with h | h
    · obtain ⟨i, hi, hu⟩ := flat_mem n u h
      exact ⟨i, by omega, hu⟩
    · exact ⟨n, by omega, h⟩
theorem flat_congr {C D : Nat → List Value} : ∀ n, (∀ i, i < n → C i = D i) → flat C n = flat D n
  | 0, _ => rfl
  | n + 1, h => by rw [flat, flat, flat_congr n (fun i hi => h i (by omega)), h n (by omega)]

theorem owns_sl {w : World} {base : Nat} {e : TypeId} {k : Nat} {v : Value} {n : Nat} {C : Nat → List Value} (h : w.ownsRow base e k v n (flat C n)) (hC : ∀ i, i < n → (C i).length = k) : Sl (fun i => base ≤ i) k w v n C := by
  by_cases hn : 0 < n
  · obtain ⟨g, cap, hv, h1, h2, h3, h4, h5⟩ := owns_pos h hn
    refine ⟨_, cap, hv, h3, h4, fun _ => ⟨g, 0, rfl, h1, h2, fun i hi => ⟨hC i hi, fun j hj => ?_⟩⟩⟩
    have hg := flat_get n hC i j hi hj
    have hjl : j < (C i).length := by rw [hC i hi]; exact hj
    have := h5 (i * k + j) ((C i)[j]) (by rw [hg]; exact List.getElem?_eq_getElem hjl)
    rw [Nat.zero_add, this, List.getElem?_eq_getElem hjl]
  · rcases h.2 with ⟨hv, h0⟩ | ⟨g, cap, cur, hv, hb, hg, hnc, hcm, hcs, htake⟩
    · exact ⟨none, 0, by rw [hv, h0], by omega, Nat.zero_le _, fun h => absurd h hn⟩
    · exact ⟨_, cap, hv, hnc, hcm, fun h => absurd h hn⟩

theorem Sl.news {ok : Nat → Prop} {k : Nat} {w : World} {b o : Nat} {n cap : Nat} {C : Nat → List Value} (hk : 0 < k) (h : Sl ok k w (.slice (some ⟨b, o, none⟩) n cap) n C) :
    ∀ q u, (flat C n)[q]? = some u → w.cell? ((⟨b, o, none⟩ : Addr).add q) = some u := by
  intro q u hq
  obtain ⟨ao, cap', hv, h1, h2, h3⟩ := h
  injection hv with e1 e2 e3
  subst e1
  have hlen : (flat C n).length ≤ n * k → q < n * k := fun h => by
    have := (List.getElem?_eq_some_iff.1 hq).1
    omega
  by_cases hn : 0 < n
  · obtain ⟨b', o', ha, _, _, hc⟩ := h3 hn
    injection ha with ha
    injection ha with ha1 ha2 ha3
    subst ha1 ha2
    have hl := flat_len n (fun i hi => (hc i hi).1)
    have hqn : q < n * k := hlen (by omega)
    have hqi : q / k < n := Nat.div_lt_of_lt_mul (by rw [Nat.mul_comm]; exact hqn)
    have hqj : q % k < k := Nat.mod_lt _ hk
    have hq' : q / k * k + q % k = q := by rw [Nat.mul_comm]; exact Nat.div_add_mod q k
    have hg := flat_get n (fun i hi => (hc i hi).1) (q / k) (q % k) hqi hqj
    rw [hq', hq] at hg
    have hcc := (hc (q / k) hqi).2 (q % k) hqj
    rw [← hg, Nat.add_assoc, hq'] at hcc
    have adds : (⟨b, o, none⟩ : Addr).add q = ⟨b, o + q, none⟩ := by unfold Addr.add; split <;> simp_all
    rw [adds]
    exact hcc
  · have : n = 0 := by omega
    subst this
    simp [flat] at hq

theorem Tryd.info97 : (Tryd.prog.info? 97).map (fun i => (i.zero, i.size, i.bytes)) = some (some (.agg #[.int .i64 0, .string ⟨#[]⟩]), 2, 24) := by kernel_rfl
theorem Tryd.info71 : (Tryd.prog.info? 71).map (fun i => (i.zero, i.size, i.bytes)) = some (some (.slice none 0 0), 1, 24) := by kernel_rfl

theorem nils35 (w : World) (c : Nat) (ty : TypeId) : (Builtin.append_ #[35, 35] ty #[.slice none 0 0, .slice none 0 c]).run Tryd.prog w = .ok (.slice none 0 0) w := by kernel_rfl
theorem nils90 (w : World) (c : Nat) (ty : TypeId) : (Builtin.append_ #[71, 71] ty #[.slice none 0 0, .slice none 0 c]).run Tryd.prog w = .ok (.slice none 0 0) w := by kernel_rfl

/-- append(nil, x...): a copy of x in new memory -/
theorem wpList_copy {w : World} {ops : Array Oper} {rest : List Oper} {o : Oper} {a : Act} {Q : Exit → Act → World → Prop} (hgd : o.guard = none) (s x : Operand) (t e : TypeId) (k bytes : Nat) (i : TypeInfo) (z : Value)
    (ho : o.op = .call { callee := .builtin .append, args := #[s, x], argTypes := #[t, t] }) (ht : Tryd.prog.underlying t = some (.slice e)) (hi : Tryd.prog.info? e = some i) (hz : i.zero = some z) (hsize : i.size = k) (hby : i.bytes = bytes) (hzs : z.cells.size = k) (hk : 0 < k)
    (hs : a.eval s = .slice none 0 0) {ok : Nat → Prop} {v : Value} {n : Nat} {C : Nat → List Value} (hx : a.eval x = v) (hS : Sl ok k w v n C) (hCl : ∀ i, i < n → (C i).length = k) (h1 : ∀ u, u ∈ flat C n → u.oneCell' = true) (hM : n * bytes ≤ 140737488355328) (hn : n ≤ maxLen) (hnil : ∀ (w : World) (c : Nat) (ty : TypeId), (Builtin.append_ #[t, t] ty #[.slice none 0 0, .slice none 0 c]).run Tryd.prog w = .ok (.slice none 0 0) w)
    (h : ∀ a' c' w', Sl (fun i => w.heap.size ≤ i) k w' (.slice a' n c') n C → Below w.heap.size w w' → wpList Tryd.prog ops Q rest (a.put o.dst (.slice a' n c')) w') : wpList Tryd.prog ops Q (o :: rest) a w := by
  have hS0 := hS
  obtain ⟨ao, cap, rfl, h2, h3, h4⟩ := hS
  cases ao with
  | none =>
    have hn0 : n = 0 := by
      by_cases hp : 0 < n
      · obtain ⟨b, o, hb, _⟩ := h4 hp
        cases hb
      · omega
    subst hn0
    have hrun := hnil w cap o.type
    refine wpList_plain hgd fun _ hK => ?_
    unfold Oper.wp
    simp [execOp, ho, resolve, invoke, builtin, hs, hx, hrun, Result.andThen]
    exact hK _ _ (h none 0 w Sl.nil (Below.refl _ _))
  | some ad =>
    have hnews : ∀ q u, (flat C n)[q]? = some u → w.cell? (ad.add q) = some u := by
      by_cases hp : 0 < n
      · obtain ⟨b, o, hb, _⟩ := h4 hp
        injection hb with hb
        subst hb
        exact Sl.news hk hS0
      · have hn0 : n = 0 := by omega
        subst hn0
        intro q u hq
        simp [flat] at hq
    refine wpList_append_own _ hgd s x t ho w.heap.size e i z k bytes ht hi hz hsize hby hzs hk _ 0 [] hs (World.ownsRow_nil _ _ _ _) ad n cap (flat C n) hx (flat_len n hCl) hnews h1 (by rw [Nat.zero_add]; exact hn) (by rw [Nat.zero_add]; exact hM) (Nat.le_refl _) ?_
    intro v3 w3 hown hgrow _
    have b3 : Below w.heap.size w w3 := (Below.refl _ w).grown hgrow (Nat.le_refl _) (fun k hk => by cases hk)
    have hown' : w3.ownsRow w.heap.size e k v3 n (flat C n) := by simpa using hown
    have hs3 := owns_sl hown' hCl
    have hs4 := hs3
    obtain ⟨ao3, cap3, rfl, _⟩ := hs4
    exact h _ _ _ hs3 b3

set_option maxHeartbeats 4000000 in
theorem copyNames_any {ok : Nat → Prop} {w : World} {v : Value} {l : List ByteArray} (hl : HNames ok w v l) (hM : l.length * 16 ≤ 140737488355328) :
    Calls Tryd.prog 17 #[v] w fun e w' => ∃ a n c, e = .returned (.slice a n c) ∧ HNames (fun i => w.heap.size ≤ i) w' (.slice a n c) l ∧ Below w.heap.size w w' := by
  obtain ⟨i0, hi, hz0, hz1, hz2⟩ := info_parts Tryd.info9
  obtain ⟨C, hS, hC⟩ := hl
  have hCl : ∀ i, i < l.length → (C i).length = 1 := fun i hi => by rw [hC i hi]; rfl
  have hone : ∀ u, u ∈ flat C l.length → u.oneCell' = true := fun u hu => by
    obtain ⟨i, hi, hu⟩ := flat_mem _ _ hu
    rw [hC i hi] at hu
    simp at hu
    subst hu
    rfl
  have hnm : l.length ≤ maxLen := by unfold maxLen; omega
  go_enter Tryd.func17, Tryd.ntmps17
  go_wp2_with (at_builtin; refine wpList_copy rfl _ _ 35 9 1 16 i0 (.string ⟨#[]⟩) rfl Tryd.underlying35 hi hz0 hz1 hz2 rfl (by decide) rfl rfl hS hCl hone hM hnm nils35 ?_; intro a3 c3 w3 hs3 b3)
  go_ret
  exact ⟨_, _, _, rfl, ⟨C, hs3, hC⟩, b3⟩

/-- the sizes of a list take no more room than there is -/
def FitS (S : List (List Tm)) : Prop := S.length * 24 ≤ 140737488355328 ∧ ∀ i (h : i < S.length), (S[i]).length * 24 ≤ 140737488355328

theorem terms_one {l : List Tm} {C : Nat → List Value} (hC : ∀ i (h : i < l.length), C i = [.int .i64 (l[i]).1, .string (l[i]).2]) : (∀ i, i < l.length → (C i).length = 2) ∧ ∀ u, u ∈ flat C l.length → u.oneCell' = true := by
  refine ⟨fun i hi => by rw [hC i hi]; rfl, fun u hu => ?_⟩
  obtain ⟨i, hi, hu⟩ := flat_mem _ _ hu
  rw [hC i hi] at hu
  simp at hu
  rcases hu with rfl | rfl <;> rfl


/-- append to a row of the call's own: what comes is the same row, or a new block -/
theorem run_push {P : Program} (w : World) (base : Nat) (t ty e : TypeId) (i : TypeInfo) (z : Value) (size bytes : Nat) (ht : P.underlying t = some (.slice e)) (hi : P.info? e = some i) (hz : i.zero = some z)
    (hsize : i.size = size) (hby : i.bytes = bytes) (hzs : z.cells.size = size) (hsz : 0 < size)
    (v : Value) (n : Nat) (xs : List Value) (hown : w.ownsRow base e size v n xs)
    (a : Addr) (m c : Nat) (news : List Value) (hl : news.length = m * size) (hnews : ∀ j u, news[j]? = some u → w.cell? (a.add j) = some u) (h1 : ∀ u ∈ news, u.oneCell' = true)
    (h63 : n + m ≤ maxLen) (hbytes : (n + m) * bytes ≤ 140737488355328) (hbase : base ≤ w.heap.size) :
    ∃ v' w', (Builtin.append_ #[t, t] ty #[v, .slice (some a) m c]).run P w = .ok v' w' ∧ w'.ownsRow base e size v' (n + m) (xs ++ news) ∧ w.grownBy w' v.ownBlock ∧ (v'.ownBlock = v.ownBlock ∨ ∃ k, v'.ownBlock = some k ∧ w.heap.size ≤ k) := by
  obtain ⟨v', w', hr, h2, h3, h4⟩ := run_append_own (P := P) w base t ty e i z size bytes ht hi hz hsize hby hzs hsz v n xs hown a m c news hl hnews h1 h63 hbytes hbase
  refine ⟨v', w', hr, h2, h3, ?_⟩
  have hcell := @World.ownsRow.cells _ _ _ _ _ _ _ hown
  rcases hown.2 with ⟨rfl, h0⟩ | ⟨g, cap, cur, rfl, hb, hg, hnc, hcm, hcs, htake⟩
  · obtain ⟨v2, w2, hr2, h22, _⟩ := run_append_own (P := P) w w.heap.size t ty e i z size bytes ht hi hz hsize hby hzs hsz (.slice none 0 0) n xs ⟨hown.1, .inl ⟨rfl, h0⟩⟩ a m c news hl hnews h1 h63 hbytes (Nat.le_refl _)
    rw [hr] at hr2
    injection hr2 with e1 e2
    subst e1 e2
    rcases h22.2 with ⟨rfl, _⟩ | ⟨g, cap, cur, rfl, hb, _⟩
    · exact .inl rfl
    · exact .inr ⟨g, rfl, hb⟩
  · by_cases hroom : n + m ≤ cap
    · subst hsize
      have hin : ∀ j, j < news.length → 0 + n * i.size + j < cur.size := fun j hj => by
        have : (n + m) * i.size ≤ cap * i.size := Nat.mul_le_mul_right _ hroom
        rw [Nat.add_mul] at this
        rw [hcs]
        omega
      have hr2 := run_append_room_cells (P := P) w t ty e i ht hi g 0 n cap a m c news hl hnews h1 hroom
        (fun j hj => by rw [cell_of hg]; have := hin j hj; simp at this ⊢; omega) (fun j hj => free_of hg _)
      rw [hr] at hr2
      injection hr2 with e1 e2
      subst e1
      exact .inl rfl
    · obtain ⟨v2, w2, hr2, h22, _⟩ := run_append_arg_grows (P := P) w t ty e i z size bytes ht hi hz hsize hby hzs hsz ⟨g, 0, none⟩ n cap xs hown.1 (fun j u hu => @hcell g rfl j u hu) a m c news hl hnews (by omega) h63 hbytes
      rw [hr] at hr2
      injection hr2 with e1 e2
      subst e1 e2
      rcases h22.2 with ⟨rfl, hz0⟩ | ⟨g', cap', cur', rfl, hb', _⟩
      · exfalso
        have : ¬ (0 : Nat) < n + m := by omega
        omega
      · exact .inr ⟨g', rfl, hb'⟩

theorem wpList_push {w : World} {ops : Array Oper} {rest : List Oper} {o : Oper} {a : Act} {Q : Exit → Act → World → Prop} (hgd : o.guard = none) (s x : Operand) (t : TypeId)
    (ho : o.op = .call { callee := .builtin .append, args := #[s, x], argTypes := #[t, t] })
    (base : Nat) (e : TypeId) (i : TypeInfo) (z : Value) (size bytes : Nat) (ht : Tryd.prog.underlying t = some (.slice e)) (hi : Tryd.prog.info? e = some i) (hz : i.zero = some z)
    (hsize : i.size = size) (hby : i.bytes = bytes) (hzs : z.cells.size = size) (hsz : 0 < size)
    (v : Value) (n : Nat) (xs : List Value) (hs : a.eval s = v) (hown : w.ownsRow base e size v n xs)
    (ad : Addr) (m c : Nat) (news : List Value) (hx : a.eval x = .slice (some ad) m c) (hl : news.length = m * size) (hnews : ∀ j u, news[j]? = some u → w.cell? (ad.add j) = some u) (h1 : ∀ u ∈ news, u.oneCell' = true)
    (h63 : n + m ≤ maxLen) (hbytes : (n + m) * bytes ≤ 140737488355328) (hbase : base ≤ w.heap.size)
    (h : ∀ v' w', w'.ownsRow base e size v' (n + m) (xs ++ news) → w.grownBy w' v.ownBlock → (v'.ownBlock = v.ownBlock ∨ ∃ k, v'.ownBlock = some k ∧ w.heap.size ≤ k) → wpList Tryd.prog ops Q rest (a.put o.dst v') w') : wpList Tryd.prog ops Q (o :: rest) a w := by
  obtain ⟨v', w', hr, h2, h3, h4⟩ := run_push (P := Tryd.prog) w base t o.type e i z size bytes ht hi hz hsize hby hzs hsz v n xs hown ad m c news hl hnews h1 h63 hbytes hbase
  refine wpList_plain hgd fun _ hK => ?_
  unfold Oper.wp execOp
  simp only [ho, resolve, invoke, builtin, Sem.run_bind, Sem.run_pure, Result.andThen_ok, List.map_toArray, List.map_cons, List.map_nil, hs, hx, hr]
  exact hK _ _ (h v' w' h2 h3 h4)

end Go.Proofs.YtmgaeapckfdbpaaDoor
