import Derived.Test.YtbiomnnlpafciaaDoorT25
import Derived.WalkKit
import Derived.WalkSpells
import Derived.IntWalk
import Derived.Deep.Cut
import Derived.Deep.LoopGhost
import Derived.Laws.Cover1
import Derived.Lib.Hide
set_option linter.unusedVariables false
set_option linter.unusedSimpArgs false
set_option maxHeartbeats 64000000
set_option maxRecDepth 100000
namespace Go.Proofs.YtbiomnnlpafciaaDoor
open Go.RowKit Go.IntWalk
set_option linter.unusedVariables false
set_option linter.unusedSimpArgs false
theorem applyR_any (k a b : Int) (w : World) (ha : I64 a) (hb : I64 b) : Calls Tryd.prog 35 #[.int .i64 k, .int .i64 a, .int .i64 b] w fun e w' => e = .returned (.int .i64 (apT k a b)) ∧ Below w.heap.size w w' := (refApply_any k a b w ha hb).mono (by rintro e w' ⟨rfl, rfl⟩; exact ⟨rfl, Below.refl _ _⟩)
def PartPost (M : List Int) (k : Int) (E : List Pu) (i : Nat) (w : World) (e : Ending) (w' : World) : Prop :=
  ∃ (v : Int) (j : Nat), e = .returned (.tuple #[.int .i64 v, .int .i64 ((j : Int) - 1)]) ∧ Lo.Part M k E i v j ∧ Below w.heap.size w w'
theorem w64_back {i : Nat} (h : (i : Int) ≤ 24) : IntKind.i64.wrap ((i : Int) - 1) = (i : Int) - 1 := i64_in _ (by omega)
theorem Lo.Part.lt {M : List Int} {k : Int} {E : List Pu} {i j : Nat} {v : Int} (h : Lo.Part M k E i v j) : j ≤ i := Nat.le_of_lt h.1
set_option maxHeartbeats 16000000 in
theorem partU_any {w : World} {mb : Nat} {c : Int} {vP vG vS : Value} {aC : Option Addr} {nC cC : Nat} {okC okE : Nat → Prop} {M : List Int} {E : List Pu} {aE : Option Addr} {cE i : Nat} {k : Int} (hE : HPu okE w (.slice aE E.length cE) E) (hi : i < E.length) (hlen : E.length ≤ 24) (hM : Lo.Wd M) (hPW : Lo.PW E) {pk pv pn : Int} (hop : E[i] = ⟨5, pk, pv, pn⟩) (hI1 : ∀ W, Below w.heap.size w W → Calls Tryd.prog 61 #[.pointer (some ⟨mb, 0, none⟩), .slice aE E.length cE, .int .i64 ((i : Int) - 1), .int .i64 k] W (PartPost M k E i W)) : Calls Tryd.prog 61 #[.pointer (some ⟨mb, 0, none⟩), .slice aE E.length cE, .int .i64 (i : Int), .int .i64 k] w (PartPost M k E (i + 1) w) := by
  obtain ⟨ao', cap', eqs, hc1, hc2, hat2⟩ := hE.at
  injection eqs with q1 q2 q3
  subst q1 q3
  unfold maxLen at hc2
  obtain ⟨bb, o, rfl, hb, e0, e1, e2, e3⟩ := hat2 i hi
  rw [hop] at e0 e1 e2 e3
  dsimp only at e0 e1 e2 e3
  have b1 : Below w.heap.size w (w.alloc (.cells #[.int .i64 5, .int .i64 pk, .int .i64 pv, .int .i64 pn] 59 (0, 0))) := (Below.refl _ _).alloc (Nat.le_refl _) _
  have kP := heap_new w (.cells #[.int .i64 5, .int .i64 pk, .int .i64 pv, .int .i64 pn] 59 (0, 0))
  have HWI := hide (w64_back (i := i) (by omega))
  have HI1 := hide hI1
  have HWD := hide (fun (j : Nat) (v : Int) (m : Nat) (h : Lo.Part M k E j v m) (hj : j ≤ i) => h.wide hM hPW (Nat.le_trans hj (Nat.le_of_lt hi)))
  have HST := hide (show ∀ a j, Lo.Part M k E i a j → Lo.Part M k E (i + 1) (apT pk a 0) j from fun a j h => by
    have := Lo.part_1 hi (by rw [hop]; rfl) h
    rw [hop] at this
    exact this)
  clear hat2 hE q2 hop hI1 hM hPW 
  generalize E.length = ne at *
  go_enter Tryd.func61, Tryd.ntmps61
  go_upto_region 2 with fail
  clear e0 e1 e2 e3
  generalize w.alloc (.cells #[.int .i64 5, .int .i64 pk, .int .i64 pv, .int .i64 pn] 59 (0, 0)) = w1 at b1 kP ⊢
  have p0 := cell_of kP 0
  have p1 := cell_of kP 1
  have p2 := cell_of kP 2
  have p3 := cell_of kP 3
  simp at p0 p1 p2 p3
  have yP := lt_of kP
  go_wp2_with fail
  refine (HI1.out _ b1).mono ?_
  rintro e A ⟨a, j, rfl, hPa, bA'⟩
  have HPa := hide hPa
  clear hPa
  have bA := b1.trans (bA'.mono b1.size)
  replace p0 := (bA'.cell (p := ⟨w.heap.size, 0, none⟩) yP).trans p0
  replace p1 := (bA'.cell (p := ⟨w.heap.size, 1, none⟩) yP).trans p1
  replace p2 := (bA'.cell (p := ⟨w.heap.size, 2, none⟩) yP).trans p2
  replace p3 := (bA'.cell (p := ⟨w.heap.size, 3, none⟩) yP).trans p3
  replace yP := Nat.lt_of_lt_of_le yP bA'.size
  go_wp2_with fail
  refine (applyR_any pk a 0 _ (HWD.out _ _ _ HPa.out (Nat.le_refl _)) (by unfold I64; omega)).mono ?_
  rintro e wE ⟨rfl, bE'⟩
  have bE := bA.trans (bE'.mono bA.size)
  go_wp2
  exact bodyPost_ret (v := .tuple #[.int .i64 (apT pk a 0), .int .i64 ((j : Int) - 1)]) (by simp [results, Tryd.results61, go_sem]) rfl ⟨_, _, rfl, HST.out _ _ HPa.out, bE⟩
set_option maxHeartbeats 16000000 in
theorem partB_any {w : World} {mb : Nat} {c : Int} {vP vG vS : Value} {aC : Option Addr} {nC cC : Nat} {okC okE : Nat → Prop} {M : List Int} {E : List Pu} {aE : Option Addr} {cE i : Nat} {k : Int} (hE : HPu okE w (.slice aE E.length cE) E) (hi : i < E.length) (hlen : E.length ≤ 24) (hM : Lo.Wd M) (hPW : Lo.PW E) {pk pv pn : Int} (hop : E[i] = ⟨6, pk, pv, pn⟩) (hI1 : ∀ W, Below w.heap.size w W → Calls Tryd.prog 61 #[.pointer (some ⟨mb, 0, none⟩), .slice aE E.length cE, .int .i64 ((i : Int) - 1), .int .i64 k] W (PartPost M k E i W)) (hI2 : ∀ (b : Int) (m : Nat), Lo.Part M k E i b m → ∀ W, Below w.heap.size w W → Calls Tryd.prog 61 #[.pointer (some ⟨mb, 0, none⟩), .slice aE E.length cE, .int .i64 ((m : Int) - 1), .int .i64 k] W (PartPost M k E m W)) : Calls Tryd.prog 61 #[.pointer (some ⟨mb, 0, none⟩), .slice aE E.length cE, .int .i64 (i : Int), .int .i64 k] w (PartPost M k E (i + 1) w) := by
  obtain ⟨ao', cap', eqs, hc1, hc2, hat2⟩ := hE.at
  injection eqs with q1 q2 q3
  subst q1 q3
  unfold maxLen at hc2
  obtain ⟨bb, o, rfl, hb, e0, e1, e2, e3⟩ := hat2 i hi
  rw [hop] at e0 e1 e2 e3
  dsimp only at e0 e1 e2 e3
  have b1 : Below w.heap.size w (w.alloc (.cells #[.int .i64 6, .int .i64 pk, .int .i64 pv, .int .i64 pn] 59 (0, 0))) := (Below.refl _ _).alloc (Nat.le_refl _) _
  have kP := heap_new w (.cells #[.int .i64 6, .int .i64 pk, .int .i64 pv, .int .i64 pn] 59 (0, 0))
  have HWI := hide (w64_back (i := i) (by omega))
  have HI1 := hide hI1
  have HWD := hide (fun (j : Nat) (v : Int) (m : Nat) (h : Lo.Part M k E j v m) (hj : j ≤ i) => h.wide hM hPW (Nat.le_trans hj (Nat.le_of_lt hi)))
  have HI2 := hide hI2
  have HST := hide (show ∀ b m a j, Lo.Part M k E i b m → Lo.Part M k E m a j → Lo.Part M k E (i + 1) (apT pk a b) j from fun b m a j h1 h2 => by
    have := Lo.part_2 hi (by rw [hop]; rfl) h1 h2
    rw [hop] at this
    exact this)
  clear hat2 hE q2 hop hI1 hM hPW hI2
  generalize E.length = ne at *
  go_enter Tryd.func61, Tryd.ntmps61
  go_upto_region 2 with fail
  clear e0 e1 e2 e3
  generalize w.alloc (.cells #[.int .i64 6, .int .i64 pk, .int .i64 pv, .int .i64 pn] 59 (0, 0)) = w1 at b1 kP ⊢
  have p0 := cell_of kP 0
  have p1 := cell_of kP 1
  have p2 := cell_of kP 2
  have p3 := cell_of kP 3
  simp at p0 p1 p2 p3
  have yP := lt_of kP
  go_wp2_with fail
  refine (HI1.out _ b1).mono ?_
  rintro e A ⟨b, m, rfl, hPb, bA'⟩
  have HPb := hide hPb
  clear hPb
  have bA := b1.trans (bA'.mono b1.size)
  replace p0 := (bA'.cell (p := ⟨w.heap.size, 0, none⟩) yP).trans p0
  replace p1 := (bA'.cell (p := ⟨w.heap.size, 1, none⟩) yP).trans p1
  replace p2 := (bA'.cell (p := ⟨w.heap.size, 2, none⟩) yP).trans p2
  replace p3 := (bA'.cell (p := ⟨w.heap.size, 3, none⟩) yP).trans p3
  replace yP := Nat.lt_of_lt_of_le yP bA'.size
  go_wp2_with fail
  refine (HI2.out b m HPb.out _ bA).mono ?_
  rintro e B ⟨a, j, rfl, hPa, bB'⟩
  have HPa := hide hPa
  clear hPa
  have bB := bA.trans (bB'.mono bA.size)
  replace p0 := (bB'.cell (p := ⟨w.heap.size, 0, none⟩) yP).trans p0
  replace p1 := (bB'.cell (p := ⟨w.heap.size, 1, none⟩) yP).trans p1
  replace p2 := (bB'.cell (p := ⟨w.heap.size, 2, none⟩) yP).trans p2
  replace p3 := (bB'.cell (p := ⟨w.heap.size, 3, none⟩) yP).trans p3
  replace yP := Nat.lt_of_lt_of_le yP bB'.size
  go_wp2_with fail
  refine (applyR_any pk a b _ (HWD.out _ _ _ HPa.out HPb.out.lt) (HWD.out _ _ _ HPb.out (Nat.le_refl _))).mono ?_
  rintro e wE ⟨rfl, bE'⟩
  have bE := bB.trans (bE'.mono bB.size)
  go_wp2
  exact bodyPost_ret (v := .tuple #[.int .i64 (apT pk a b), .int .i64 ((j : Int) - 1)]) (by simp [results, Tryd.results61, go_sem]) rfl ⟨_, _, rfl, HST.out _ _ _ _ HPb.out HPa.out, bE⟩
set_option maxHeartbeats 16000000 in
theorem partS_any {w : World} {mb : Nat} {c : Int} {vP vG vS : Value} {aC : Option Addr} {nC cC : Nat} {okC okE : Nat → Prop} {M : List Int} {E : List Pu} {aE : Option Addr} {cE i : Nat} {k : Int} (hE : HPu okE w (.slice aE E.length cE) E) (hi : i < E.length) (hlen : E.length ≤ 24) (hM : Lo.Wd M) (hPW : Lo.PW E) {pk pv pn : Int} (hop : E[i] = ⟨7, pk, pv, pn⟩) (hI1 : ∀ W, Below w.heap.size w W → Calls Tryd.prog 61 #[.pointer (some ⟨mb, 0, none⟩), .slice aE E.length cE, .int .i64 ((i : Int) - 1), .int .i64 k] W (PartPost M k E i W)) (hI2 : ∀ (b : Int) (m : Nat), Lo.Part M k E i b m → ∀ W, Below w.heap.size w W → Calls Tryd.prog 61 #[.pointer (some ⟨mb, 0, none⟩), .slice aE E.length cE, .int .i64 ((m : Int) - 1), .int .i64 k] W (PartPost M k E m W)) (hI3 : ∀ (b : Int) (m : Nat) (a : Int) (q : Nat), Lo.Part M k E i b m → Lo.Part M k E m a q → ∀ W, Below w.heap.size w W → Calls Tryd.prog 61 #[.pointer (some ⟨mb, 0, none⟩), .slice aE E.length cE, .int .i64 ((q : Int) - 1), .int .i64 k] W (PartPost M k E q W)) : Calls Tryd.prog 61 #[.pointer (some ⟨mb, 0, none⟩), .slice aE E.length cE, .int .i64 (i : Int), .int .i64 k] w (PartPost M k E (i + 1) w) := by
  obtain ⟨ao', cap', eqs, hc1, hc2, hat2⟩ := hE.at
  injection eqs with q1 q2 q3
  subst q1 q3
  unfold maxLen at hc2
  obtain ⟨bb, o, rfl, hb, e0, e1, e2, e3⟩ := hat2 i hi
  rw [hop] at e0 e1 e2 e3
  dsimp only at e0 e1 e2 e3
  have b1 : Below w.heap.size w (w.alloc (.cells #[.int .i64 7, .int .i64 pk, .int .i64 pv, .int .i64 pn] 59 (0, 0))) := (Below.refl _ _).alloc (Nat.le_refl _) _
  have kP := heap_new w (.cells #[.int .i64 7, .int .i64 pk, .int .i64 pv, .int .i64 pn] 59 (0, 0))
  have HWI := hide (w64_back (i := i) (by omega))
  have HI1 := hide hI1
  have HWD := hide (fun (j : Nat) (v : Int) (m : Nat) (h : Lo.Part M k E j v m) (hj : j ≤ i) => h.wide hM hPW (Nat.le_trans hj (Nat.le_of_lt hi)))
  have HI2 := hide hI2
  have HI3 := hide hI3
  have HST := hide (show ∀ b m a q c j, Lo.Part M k E i b m → Lo.Part M k E m a q → Lo.Part M k E q c j → Lo.Part M k E (i + 1) (if c ≠ 0 then a else b) j from fun b m a q c j h1 h2 h3 => by
    have := Lo.part_3 hi (by rw [hop]; rfl) h1 h2 h3
    rw [hop] at this
    exact this)
  clear hat2 hE q2 hop hI1 hM hPW hI2 hI3
  generalize E.length = ne at *
  go_enter Tryd.func61, Tryd.ntmps61
  go_upto_region 2 with fail
  clear e0 e1 e2 e3
  generalize w.alloc (.cells #[.int .i64 7, .int .i64 pk, .int .i64 pv, .int .i64 pn] 59 (0, 0)) = w1 at b1 kP ⊢
  have p0 := cell_of kP 0
  have p1 := cell_of kP 1
  have p2 := cell_of kP 2
  have p3 := cell_of kP 3
  simp at p0 p1 p2 p3
  have yP := lt_of kP
  go_wp2_with fail
  refine (HI1.out _ b1).mono ?_
  rintro e A ⟨b, m, rfl, hPb, bA'⟩
  have HPb := hide hPb
  clear hPb
  have bA := b1.trans (bA'.mono b1.size)
  replace p0 := (bA'.cell (p := ⟨w.heap.size, 0, none⟩) yP).trans p0
  replace p1 := (bA'.cell (p := ⟨w.heap.size, 1, none⟩) yP).trans p1
  replace p2 := (bA'.cell (p := ⟨w.heap.size, 2, none⟩) yP).trans p2
  replace p3 := (bA'.cell (p := ⟨w.heap.size, 3, none⟩) yP).trans p3
  replace yP := Nat.lt_of_lt_of_le yP bA'.size
  go_wp2_with fail
  refine (HI2.out b m HPb.out _ bA).mono ?_
  rintro e B ⟨a, q, rfl, hPa, bB'⟩
  have HPa := hide hPa
  clear hPa
  have bB := bA.trans (bB'.mono bA.size)
  replace p0 := (bB'.cell (p := ⟨w.heap.size, 0, none⟩) yP).trans p0
  replace p1 := (bB'.cell (p := ⟨w.heap.size, 1, none⟩) yP).trans p1
  replace p2 := (bB'.cell (p := ⟨w.heap.size, 2, none⟩) yP).trans p2
  replace p3 := (bB'.cell (p := ⟨w.heap.size, 3, none⟩) yP).trans p3
  replace yP := Nat.lt_of_lt_of_le yP bB'.size
  go_wp2_with fail
  refine (HI3.out b m a q HPb.out HPa.out _ bB).mono ?_
  rintro e C ⟨c, j, rfl, hPc, bC'⟩
  have HPc := hide hPc
  clear hPc
  have bC := bB.trans (bC'.mono bB.size)
  replace p0 := (bC'.cell (p := ⟨w.heap.size, 0, none⟩) yP).trans p0
  replace p1 := (bC'.cell (p := ⟨w.heap.size, 1, none⟩) yP).trans p1
  replace p2 := (bC'.cell (p := ⟨w.heap.size, 2, none⟩) yP).trans p2
  replace p3 := (bC'.cell (p := ⟨w.heap.size, 3, none⟩) yP).trans p3
  replace yP := Nat.lt_of_lt_of_le yP bC'.size
  by_cases h0 : c = 0
  · have e0 : (c != 0) = false := by simp [h0]
    have HZ := hide (show Lo.Part M k E (i + 1) b j by
      have := HST.out _ _ _ _ _ _ HPb.out HPa.out HPc.out
      rw [if_neg (by simp [h0])] at this
      exact this)
    clear h0
    go_wp2
    exact bodyPost_ret (v := .tuple #[.int .i64 b, .int .i64 ((j : Int) - 1)]) (by simp [results, Tryd.results61, go_sem]) rfl ⟨_, _, rfl, HZ.out, bC⟩
  · have e0 : (c != 0) = true := by simp [h0]
    have HZ := hide (show Lo.Part M k E (i + 1) a j by
      have := HST.out _ _ _ _ _ _ HPb.out HPa.out HPc.out
      rw [if_pos h0] at this
      exact this)
    clear h0
    go_wp2
    exact bodyPost_ret (v := .tuple #[.int .i64 a, .int .i64 ((j : Int) - 1)]) (by simp [results, Tryd.results61, go_sem]) rfl ⟨_, _, rfl, HZ.out, bC⟩
end Go.Proofs.YtbiomnnlpafciaaDoor
