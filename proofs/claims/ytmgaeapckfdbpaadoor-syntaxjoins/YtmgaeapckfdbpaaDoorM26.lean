/-
  DERIVED. THE WALKS of the reader's program, and of the closure that catches what it gives up with, whatever comes, over the contract of its forms.
-/
import Derived.Test.YtmgaeapckfdbpaaDoorPg17
import Derived.Test.YtmgaeapckfdbpaaDoorM25
namespace Go.Proofs.YtmgaeapckfdbpaaDoor
open Go.RowKit Go.IntWalk
set_option linter.unusedVariables false
set_option linter.unusedSimpArgs false
set_option maxRecDepth 100000

def prV : Nat → World → Value → List Nd → Prop := fun B w x l => ∃ a n c, x = .agg #[.slice a n c] ∧ HNds (fun i => B ≤ i) w (.slice a n c) l
theorem node_not {I : Inp} {n : Nat} (h : Ps.sees I [110, 111, 100, 101] n = false) : Ps.node I n = .err (Ps.refC I n) (I.pk n).place := by
  rw [node_eq]
  unfold Ps.need
  rw [h]
  rfl
theorem nodes_succ {I : Inp} {f : Nat} {acc : List Nd} {n : Nat} (h : (I.pk n).kind ≠ 0) : Ps.nodes I (f + 1) acc n = (Ps.node I n).bind fun x n1 => Ps.nodes I f (acc ++ [x]) n1 := by
  simp [Ps.nodes, h]
theorem nodes_stop {I : Inp} {n : Nat} (h : (I.pk n).kind = 0) : ∀ (k : Nat) (acc : List Nd), Ps.nodes I k acc n = .ok acc n
  | 0, acc => by simp [Ps.nodes, h]
  | k + 1, acc => by simp [Ps.nodes, h]

set_option maxHeartbeats 16000000 in
theorem program_any (hform : FormC) {b g cap : Nat} {I : Inp} (hL : I.L.length ≤ 1099511627776) {w : World} (h : Rd w b g cap I.L I.len 0 0) (hG : GlobB b w) :
    Calls Tryd.prog 26 #[.pointer (some ⟨b, 0, none⟩)] w (Post b g cap I 0 prV 0 w (Ps.program I)) := by
  have HN := node_any hform (b := b) (g := g) (cap := cap) hL
  have hb := h.bb
  have hg := h.gb
  go_enter Tryd.func26, Tryd.ntmps26
  go_wp2_with fail
  refine (HN _ _ (h.alloc _) (hG.alloc _)).mono ?_
  rintro e w1 ⟨a1, hres⟩
  have z1 : w.heap.size + 1 ≤ w1.heap.size := by simpa using a1.size
  have hA1 := a1.keep (heap_new w _) (by simp) (by simp; omega)
  have A1 := ((Aside.refl (S := [b]) (B := w.heap.size) w).alloc (Nat.le_refl _) _).trans a1 (by simp)
  clear a1
  cases ht : Ps.node I 0 with
  | err c0 a0 =>
    rw [ht] at hres
    obtain rfl : e = _ := hres
    exact ⟨rfl, Post.fail (by unfold Ps.program; rw [ht]; rfl) A1⟩
  | ok x0 n1 =>
    rw [ht] at hres
    obtain ⟨le1, h1, _, rfl, y, rfl, hy⟩ := hres
    have hmod : Hid (Ps.program I = Ps.nodes I 9 [x0] n1) := by
      show Ps.program I = _
      unfold Ps.program
      rw [ht]
      rfl
    clear ht
    have hE : kNode.E (fun i => w.heap.size + 1 ≤ i) w1 [.string y.name, .int .i64 y.place, .slice y.a2 y.n2 y.c2, .slice y.a3 y.n3 y.c3, .slice y.a4 y.n4 y.c4, .slice y.a5 y.n5 y.c5, .slice y.a6 y.n6 y.c6] x0 := ⟨y, rfl, hy.wide (fun i hi _ => by simpa using hi)⟩
    have hlit : OwnL kNode (w.heap.size + 1) (w1.alloc (.cells #[.string y.name, .int .i64 y.place, .slice y.a2 y.n2 y.c2, .slice y.a3 y.n3 y.c3, .slice y.a4 y.n4 y.c4, .slice y.a5 y.n5 y.c5, .slice y.a6 y.n6 y.c6] 39 (0, 0))) (.slice (some ⟨w1.heap.size, 0, none⟩) 1 1) [x0] := OwnL.lit (T := kNode) (cs := [.string y.name, .int .i64 y.place, .slice y.a2 y.n2 y.c2, .slice y.a3 y.n3 y.c3, .slice y.a4 y.n4 y.c4, .slice y.a5 y.n5 y.c5, .slice y.a6 y.n6 y.c6]) z1 hE
    clear hy hE
    go_wp2
    go_loopg [3] 9 (fun k v wr => ∃ (m : Nat) (acc : List Nd), k + acc.length = 10 ∧ OwnL kNode (w.heap.size + 1) wr v acc ∧ Rd wr b g cap I.L I.len m 0 ∧ Aside [b] w.heap.size w wr ∧ wr.heap[w.heap.size]? = some (.cells #[.slice none 0 0] 25 (0, 0)) ∧ w.heap.size + 1 ≤ wr.heap.size ∧ Hid (Ps.program I = Ps.nodes I k acc m))
    case atStart => exact ⟨n1, [x0], rfl, hlit, h1.alloc _, A1.alloc (by omega) _, keep_alloc hA1 _, by simp; omega, hmod⟩
    case round =>
      clear hmod hlit h1 A1 hA1
      obtain ⟨m, acc, hk, hown, hr, hA, hN, zr, hmod⟩ := hrel
      obtain ⟨aa, cc, rfl, hc1, hc2⟩ := hown.form
      unfold maxLen at hc2
      have hp := @peek_any _ _ _ _ _ _ _ _ hr
      obtain ⟨t, ht⟩ : ∃ t, t = I.pk m := ⟨_, rfl⟩
      have hpk : peekT I.L I.len m = t := ht.symm
      rw [hpk] at hp
      unfold tokV at hp
      have hf := fun x w => tokF0 t x w
      have HT := hide ht
      clear hpk ht
      go_wp2_with fail
      refine hp.mono ?_
      rintro e w2 ⟨rfl, b2⟩
      have z2 := b2.size
      have h2 := hr.below b2
      have A2 := hA.trans (aside b2) hA.size
      have hN2 := (aside b2 (S := [])).keep hN (lt_of hN) (by simp)
      have own2 := hown.below b2
      clear hp hr hA hN hown b2
      by_cases hk0 : t.kind = 0
      · have hkb : (t.kind == 0) = true := beq_iff_eq.2 hk0
        have HK0 := hide hk0
        clear hk0
        have c0 := cell_of hN2 0
        have f0 := free_of hN2 0
        simp at c0
        have rN := own2.row.wide (ok' := fun i => w.heap.size < i) (fun i hi _ => by omega)
        go_wp2
        refine bodyPost_ret (v := .agg #[.slice aa acc.length cc]) (by simp [results, Tryd.results26, go_sem, c0]) rfl ?_
        exact Post.good (by rw [hmod.out]; exact nodes_stop (by rw [← HT.out]; exact HK0.out) gk acc) (A2.set (by simp) _) (Nat.zero_le _) (h2.set (by simp; omega) (by simp; omega) _) ⟨_, _, _, rfl, nodes_row ((rN.set (by simp) _).wide (fun i hi _ => Nat.le_of_lt hi))⟩
      · have hkb : (t.kind == 0) = false := beq_eq_false_iff_ne.2 hk0
        have hkp : (I.pk m).kind ≠ 0 := by rw [← HT.out]; exact hk0
        go_wp2_with fail
        refine (seesI h2 ⟨#[110, 111, 100, 101]⟩).mono ?_
        rintro e w3 ⟨rfl, b3⟩
        have es : (⟨#[110, 111, 100, 101]⟩ : ByteArray).data.toList = [110, 111, 100, 101] := rfl
        simp only [es]
        clear es
        have z3 := b3.size
        have h3 := h2.below b3
        have A3 := A2.trans (aside b3) A2.size
        have hN3 := (aside b3 (S := [])).keep hN2 (lt_of hN2) (by simp)
        have own3 := own2.below b3
        clear h2 A2 hN2 own2 b3
        cases hq : Ps.sees I [110, 111, 100, 101] m with
        | false =>
          go_wp2_with fail
          refine (HN _ _ h3 (hG.far A3)).mono ?_
          rintro e w4 ⟨a4, hres⟩
          rw [node_not hq] at hres
          obtain rfl : e = _ := hres
          refine ⟨rfl, Post.fail ?_ (A3.trans a4 A3.size)⟩
          rw [hmod.out]
          cases gk with
          | zero => simp [Ps.nodes, hkp, hq]; rfl
          | succ f => rw [nodes_succ hkp, node_not hq]; rfl
        | true =>
          by_cases hz : gk = 0
          · subst hz
            go_wp2_with fail
            refine (allow_no h3 _ _ (by omega)).mono ?_
            rintro e w4 ⟨rfl, b4⟩
            exact ⟨rfl, Post.fail (by rw [hmod.out]; simp [Ps.nodes, hkp, hq]) (A3.trans (aside b4) A3.size)⟩
          · obtain ⟨f, rfl⟩ : ∃ f, gk = f + 1 := ⟨gk - 1, by omega⟩
            go_wp2_with fail
            refine (allow_yes _ _ _ (by omega) _).mono ?_
            rintro e w3 ⟨rfl, rfl⟩
            go_wp2_with fail
            refine (HN _ _ h3 (hG.far A3)).mono ?_
            rintro e w4 ⟨a4, hres⟩
            have z4 := a4.size
            have A4 := A3.trans a4 A3.size
            have hN4 := a4.keep hN3 (lt_of hN3) (by simp; omega)
            have own4 := own3.past a4 (by simp; omega)
            cases ht : Ps.node I m with
            | err c0 a0 =>
              rw [ht] at hres
              obtain rfl : e = _ := hres
              exact ⟨rfl, Post.fail (by rw [hmod.out, nodes_succ hkp, ht]; rfl) A4⟩
            | ok x4 n4 =>
              rw [ht] at hres
              obtain ⟨le4, h4, _, rfl, y, rfl, hy⟩ := hres
              have hmod2 : Hid (Ps.program I = Ps.nodes I f (acc ++ [x4]) n4) := by
                show Ps.program I = _
                rw [hmod.out, nodes_succ hkp, ht]
                rfl
              have hNb := fun k hk => (own3.lt k hk).2
              have q1 : kNode.E (fun i => w3.heap.size ≤ i) w4 [.string y.name, .int .i64 y.place, .slice y.a2 y.n2 y.c2, .slice y.a3 y.n3 y.c3, .slice y.a4 y.n4 y.c4, .slice y.a5 y.n5 y.c5, .slice y.a6 y.n6 y.c6] x4 := ⟨y, rfl, hy⟩
              have q2 : (acc.length + 1) * kNode.bytes ≤ 140737488355328 := by show (acc.length + 1) * 144 ≤ _; omega
              have q3 : acc.length + 1 ≤ maxLen := by unfold maxLen; omega
              have zz3 : w.heap.size + 1 ≤ w3.heap.size := by omega
              have zz4 : w.heap.size + 1 ≤ w4.heap.size := by omega
              clear ht hmod a4 own3 h3 hN3 A3 hy
              go_wp2_with (at_builtin; refine wpList_more kNode rfl _ _ 23 39 rfl Tryd.underlying23 (w.heap.size + 1) w3.heap.size _ acc (by rfl) own4 [.string y.name, .int .i64 y.place, .slice y.a2 y.n2 y.c2, .slice y.a3 y.n3 y.c3, .slice y.a4 y.n4 y.c4, .slice y.a5 y.n5 y.c5, .slice y.a6 y.n6 y.c6] x4 q1 (by rfl) hNb zz3 zz4 q2 q3 ?_; intro v8 w8 own8 b8 _ _)
              go_wp2
              go_roundg f
              case measure => omega
              case rel => exact ⟨n4, acc ++ [x4], by simp; omega, own8, h4.under b8 (by omega) (by omega), A4.trans (aside (b8.mono (Nat.le_succ _))) (Nat.le_refl _), (b8.block _ (Nat.lt_succ_self _)).trans hN4, by have := b8.size; omega, hmod2⟩


theorem asserts75 (c a : Int) (w : World) : (Instr.typeAssert (.iface 65 (.agg #[.int .i64 c, .int .i64 a])) 20 65 true).run Tryd.prog w = .ok (.tuple #[.agg #[.int .i64 c, .int .i64 a], .bool true]) w := by kernel_rfl

set_option maxHeartbeats 4000000 in
theorem caught_up (pb qb : Nat) (c a : Int) (vp v0 v1 : Value) (w : World) (hP : w.heap[pb]? = some (.cells #[vp] 25 (0, 0))) (hQ : w.heap[qb]? = some (.cells #[v0, v1] 27 (0, 0))) (hpq : pb ≠ qb) :
    CallsD Tryd.prog 25 #[.pointer (some ⟨pb, 0, none⟩), .pointer (some ⟨qb, 0, none⟩)] (.panicking [{ v := upV c a, recovered := false }]) w fun e u' w' =>
      e = .returned (.tuple #[]) ∧ u' = .panicking [{ v := upV c a, recovered := true }] ∧ w'.heap[pb]? = some (.cells #[.slice none 0 0] 25 (0, 0)) ∧ w'.heap[qb]? = some (.cells #[.int .i64 c, .int .i64 a] 27 (0, 0)) ∧ Aside [pb, qb] w.heap.size w w' := by
  have zP := lt_of hP
  have zQ := lt_of hQ
  refine callsD_of_wpS Tryd.func25 rfl fun c₀ cs hu => ?_
  apply wpS_seq
  apply wpS_region
  simp [wpOpsS, go_sem, recoverD, hu, Tryd.ntmps25, Exit.thenS, upV]
  refine wpS_of_wp ?_
  have ef : (#[Value.pointer (some ⟨pb, 0, none⟩), Value.pointer (some ⟨qb, 0, none⟩)] ++ (Array.replicate 12 undef).setIfInBounds 3 (Value.iface 65 (.agg #[.int .i64 c, .int .i64 a]))) = #[Value.pointer (some ⟨pb, 0, none⟩), Value.pointer (some ⟨qb, 0, none⟩), undef, undef, undef, Value.iface 65 (.agg #[.int .i64 c, .int .i64 a]), undef, undef, undef, undef, undef, undef, undef, undef] := rfl
  rw [ef]
  clear ef
  have hta := asserts75
  go_wp2_with fail
  have hP1 : (w.alloc (.cells #[.int .i64 c, .int .i64 a] 65 (0, 0))).drew.heap[pb]? = some (.cells #[vp] 25 (0, 0)) := keep_alloc hP _
  have hQ1 : (w.alloc (.cells #[.int .i64 c, .int .i64 a] 65 (0, 0))).drew.heap[qb]? = some (.cells #[v0, v1] 27 (0, 0)) := keep_alloc hQ _
  have hT1 : (w.alloc (.cells #[.int .i64 c, .int .i64 a] 65 (0, 0))).drew.heap[w.heap.size]? = some (.cells #[.int .i64 c, .int .i64 a] 65 (0, 0)) := heap_new w _
  have A1 : Aside [pb, qb] w.heap.size w (w.alloc (.cells #[.int .i64 c, .int .i64 a] 65 (0, 0))).drew := ((Aside.refl w).alloc (Nat.le_refl _) _).drew
  refine wp_region_late (fun w' => w'.cell? ⟨w.heap.size, 0, none⟩ = some (.int .i64 c) ∧ w'.cell? ⟨w.heap.size, 1, none⟩ = some (.int .i64 a)) (fun j => decide (j = 4)) (by kernel_rfl) ?_
  generalize (w.alloc (.cells #[.int .i64 c, .int .i64 a] 65 (0, 0))).drew = w1 at hP1 hQ1 hT1 A1 ⊢
  have t0 := cell_of hT1 0
  have t1 := cell_of hT1 1
  simp at t0 t1
  have hH := And.intro t0 t1
  have p0 := cell_of hP1 0
  have q0 := cell_of hQ1 0
  have q1 := cell_of hQ1 1
  have fP := fun o => free_of hP1 o
  have fQ := fun o => free_of hQ1 o
  simp at p0 q0 q1
  have hT2 := cell_of (keep_set hT1 (p := ⟨pb, 0, none⟩) (by simp; omega) (.slice none 0 0)) 0
  have hT3 := cell_of (keep_set hT1 (p := ⟨pb, 0, none⟩) (by simp; omega) (.slice none 0 0)) 1
  simp only [List.getElem?_toArray, List.getElem?_cons_zero, List.getElem?_cons_succ] at hT2 hT3
  have H2 := hide (And.intro hT2 hT3)
  clear hT2 hT3
  have nQ : qb ≠ pb := hpq.symm
  refine' wpAnyL_take (i := 0) (oi := { dst := some 11, op := Op.build 25 #[], type := 25, pos := "syntax.go:26", after := #[], guard := none }) (v := _) rfl (by kernel_rfl) (by kernel_rfl) (by kernel_rfl) (by kernel_rfl) (fun _ _ _ h => h) hH (by rfl) ?hyv ?onw
  case hyv =>
    intro wz hSw
    obtain ⟨c0, c1⟩ := hSw
    go_simp
    try rfl
  case onw =>
    try simp only [Act.put, List.setIfInBounds_toArray, List.set_cons_zero, List.set_cons_succ]
    refine' wpAnyL_take (i := 1) (oi := { dst := some 12, op := Op.fieldAddr 65 (Operand.tmp 3) 0, type := 0, pos := "syntax.go:26", after := #[{ on := 3, ground := Ground.gcOnly Departure.lateStores }], guard := none }) (v := _) rfl (by kernel_rfl) (by kernel_rfl) (by kernel_rfl) (by kernel_rfl) (fun _ _ _ h => h) hH (by rfl) ?hyv ?onw
    case hyv =>
      intro wz hSw
      obtain ⟨c0, c1⟩ := hSw
      go_simp
      try rfl
    case onw =>
      try simp only [Act.put, List.setIfInBounds_toArray, List.set_cons_zero, List.set_cons_succ]
      refine' wpAnyL_take (i := 2) (oi := { dst := some 13, op := Op.load 27 (Operand.tmp 12), type := 27, pos := "syntax.go:26", after := #[{ on := 1, ground := Ground.data }, { on := 3, ground := Ground.gcOnly Departure.lateStores }], guard := none }) (v := _) rfl (by kernel_rfl) (by kernel_rfl) (by kernel_rfl) (by kernel_rfl) (fun _ _ _ h => h) hH (by rfl) ?hyv ?onw
      case hyv =>
        intro wz hSw
        obtain ⟨c0, c1⟩ := hSw
        go_simp
        try rfl
      case onw =>
        try simp only [Act.put, List.setIfInBounds_toArray, List.set_cons_zero, List.set_cons_succ]
        refine wpAnyL_one (i := 3) (o := { dst := none, op := Op.store 25 (Operand.tmp 0) (Operand.tmp 11), type := 0, pos := "syntax.go:26", after := #[{ on := 0, ground := Ground.data }, { on := 0, ground := Ground.phase }, { on := 1, ground := Ground.textOnly Departure.lateStores }, { on := 2, ground := Ground.textOnly Departure.lateStores }], guard := none }) rfl (by kernel_rfl) (by rfl) (fun K hK => ?_)
        go_simp
        refine hK.out _ _ (fun _ => H2.out) ?_
        clear hK K
        try simp only [Act.put, List.setIfInBounds_toArray, List.set_cons_zero, List.set_cons_succ]
        have hP2 := set_in hP1 0 (.slice none 0 0)
        have hQ2 := keep_set hQ1 (p := ⟨pb, 0, none⟩) (by simpa using hpq) (.slice none 0 0)
        have A2 : Aside [pb, qb] w.heap.size w (w1.setCell ⟨pb, 0, none⟩ (.slice none 0 0)) := A1.trans (Aside.setCell (by simp) _) (Nat.le_refl _)
        simp at hP2
        generalize w1.setCell ⟨pb, 0, none⟩ (.slice none 0 0) = w2 at hP2 hQ2 A2 ⊢
        have q2 := cell_of hQ2 0
        have q3 := cell_of hQ2 1
        have fQ2 := fun o => free_of hQ2 o
        simp at q2 q3
        clear hH t0 t1 p0 q0 q1 fP fQ H2 hT1 A1 hP1 hQ1
        refine wpAnyL_one (i := 4) (o := { dst := none, op := Op.store 27 (Operand.tmp 1) (Operand.tmp 13), type := 0, pos := "syntax.go:26", after := #[{ on := 2, ground := Ground.data }, { on := 3, ground := Ground.chain }, { on := 0, ground := Ground.phase }, { on := 1, ground := Ground.phase }, { on := 2, ground := Ground.phase }, { on := 3, ground := Ground.phase }], guard := none }) rfl (by kernel_rfl) (by rfl) (fun K hK => ?_)
        go_simp
        refine hK.out _ _ (fun h => by cases h) ?_
        clear hK K
        try simp only [Act.put, List.setIfInBounds_toArray, List.set_cons_zero, List.set_cons_succ]
        refine wpAnyL_done (by kernel_rfl) ?_ _
        have hP3 := keep_set (keep_set hP2 (p := ⟨qb, 0, none⟩) (by simpa using nQ) (.int .i64 c)) (p := ⟨qb, 1, none⟩) (by simpa using nQ) (.int .i64 a)
        have hQ3 := set_in (set_in hQ2 0 (.int .i64 c)) 1 (.int .i64 a)
        have A3 : Aside [pb, qb] w.heap.size w ((w2.setCell ⟨qb, 0, none⟩ (.int .i64 c)).setCell ⟨qb, 1, none⟩ (.int .i64 a)) := (A2.trans (Aside.setCell (by simp) _) (Nat.le_refl _)).trans (Aside.setCell (by simp) _) (Nat.le_refl _)
        simp at hQ3
        generalize (w2.setCell ⟨qb, 0, none⟩ (.int .i64 c)).setCell ⟨qb, 1, none⟩ (.int .i64 a) = w3 at hP3 hQ3 A3 ⊢
        go_wp2
        cases c₀
        simp_all [Exit.inBlock, bodyPostS, results, Tryd.results25, upV]

end Go.Proofs.YtmgaeapckfdbpaaDoor


/-
  DERIVED. THE WALKS of readProgram and of Parse over the text of syntaxBegun, and of syntaxBegun: it answers true.
-/
namespace Go.Proofs.YtmgaeapckfdbpaaDoor
open Go.RowKit Go.IntWalk
set_option linter.unusedVariables false
set_option linter.unusedSimpArgs false
set_option maxRecDepth 100000

theorem keepB {w : World} {k : Nat} (o : Obj) (h : k < w.heap.size) : (w.alloc o).heap[k]? = w.heap[k]? := Below.heap_alloc _ _ _ h

set_option maxHeartbeats 8000000 in
theorem readProgram_begun {w : World} {g cap : Nat} (ht : HoldsToks w g begunL) (hg : g < w.heap.size) (hc : begunL.length ≤ cap) (hm : cap ≤ maxLen) :
    Calls Tryd.prog 10 #[.slice (some ⟨g, 0, none⟩) begunL.length cap, .int .i64 48] w fun r w' => ∃ nb, r = .returned (.tuple #[.agg #[.slice (some ⟨nb, 0, none⟩) 1 1], .agg #[.int .i64 0, .int .i64 0]]) ∧ BegunAt w.heap.size w' nb ∧ Below w.heap.size w w' := by
  have hmf := makes
  obtain ⟨W1, hW1⟩ : ∃ W, W = w.alloc (.cells #[.slice none 0 0] 25 (0, 0)) := ⟨_, rfl⟩
  obtain ⟨W2, hW2⟩ : ∃ W, W = W1.alloc (.cells #[.int .i64 0, .int .i64 0] 27 (0, 0)) := ⟨_, rfl⟩
  obtain ⟨W3, hW3⟩ : ∃ W, W = W2.alloc (.cells #[.slice (some ⟨g, 0, none⟩) begunL.length cap, .int .i64 0, .int .i64 48, .int .i64 0] 68 (0, 0)) := ⟨_, rfl⟩
  have y1 : W1.heap.size = w.heap.size + 1 := by rw [hW1]; simp
  have y2 : W2.heap.size = w.heap.size + 1 + 1 := by rw [hW2]; simp [y1]
  have y3 : W3.heap.size = w.heap.size + 1 + 1 + 1 := by rw [hW3]; simp [y2]
  have bW : Below w.heap.size w W3 := by rw [hW3, hW2, hW1]; exact (((Below.refl _ w).alloc (Nat.le_refl _) _).alloc (by simp) _).alloc (by simp; omega) _
  have hP : W3.heap[w.heap.size]? = some (.cells #[.slice none 0 0] 25 (0, 0)) := by rw [hW3, hW2, hW1]; exact keep_alloc (keep_alloc (heap_new w _) _) _
  have hF : W3.heap[w.heap.size + 1]? = some (.cells #[.int .i64 0, .int .i64 0] 27 (0, 0)) := by rw [hW3, hW2, ← y1]; exact keep_alloc (heap_new W1 _) _
  have hB : W3.heap[w.heap.size + 1 + 1]? = some (.cells #[.slice (some ⟨g, 0, none⟩) begunL.length cap, .int .i64 0, .int .i64 48, .int .i64 0] 68 (0, 0)) := by rw [hW3, ← y2]; exact heap_new W2 _
  have hR : Rd W3 (w.heap.size + 1 + 1) g cap begunL 48 0 0 := ⟨hB, ht.keep (bW.block g hg), by omega, by omega, by decide, hc, hm⟩
  go_enter_defers Tryd.func10, Tryd.ntmps10
  go_wp2_with fail
  rw [← hW1, ← hW2, ← hW3]
  refine (program_begun hR).mono ?_
  rintro r w4 ⟨nb, rfl, hbg, a4⟩
  have z4 := a4.size
  have hP4 := a4.keep hP (by omega) (by simp; omega)
  have hF4 := a4.keep hF (by omega) (by simp)
  have A4 : Below w.heap.size w w4 := bW.trans ((a4.mono (B' := w.heap.size) (by omega)).below (by simp; omega))
  have cp0 := cell_of hP4 0
  have fp0 := free_of hP4 0
  have cf0 := cell_of hF4 0
  have ff0 := free_of hF4 0
  have cf1 := cell_of hF4 1
  have ff1 := free_of hF4 1
  simp at cp0 cf0 cf1
  clear hR hB hP hF bW a4 hW1 hW2 hW3
  go_wp2
  refine leaves_cons (f := 25) (args := #[.pointer (some ⟨w.heap.size, 0, none⟩), .pointer (some ⟨w.heap.size + 1, 0, none⟩)]) (by simp) (by simp [go_sem]) ?_
  refine (caught_idle ⟨w.heap.size, 0, none⟩ ⟨w.heap.size + 1, 0, none⟩ _).mono ?_
  rintro e u' w'' ⟨rfl, rfl, rfl⟩
  have hbg' : BegunAt w.heap.size (((w4.setCell ⟨w.heap.size, 0, none⟩ (.slice (some ⟨nb, 0, none⟩) 1 1)).setCell ⟨w.heap.size + 1, 0, none⟩ (.int .i64 0)).setCell ⟨w.heap.size + 1, 1, none⟩ (.int .i64 0)) nb := by
    have h0 := hbg.keep (w' := (((w4.setCell ⟨w.heap.size, 0, none⟩ (.slice (some ⟨nb, 0, none⟩) 1 1)).setCell ⟨w.heap.size + 1, 0, none⟩ (.int .i64 0)).setCell ⟨w.heap.size + 1, 1, none⟩ (.int .i64 0))) (by simp [World.setCell]) (fun k hk _ => by
      rw [Below.heap_setCell _ _ _ _ (by simp; omega), Below.heap_setCell _ _ _ _ (by simp; omega), Below.heap_setCell _ _ _ _ (by simp; omega)])
    obtain ⟨q, cq, bk, h1, h2, h3, h4, h5, h6, h7⟩ := h0
    exact ⟨q, cq, bk, by omega, h2, by omega, h4, by omega, h6, h7⟩
  have A5 := ((A4.setCell (p := ⟨w.heap.size, 0, none⟩) (Nat.le_refl _) (.slice (some ⟨nb, 0, none⟩) 1 1)).setCell (p := ⟨w.heap.size + 1, 0, none⟩) (Nat.le_succ _) (.int .i64 0)).setCell (p := ⟨w.heap.size + 1, 1, none⟩) (Nat.le_succ _) (.int .i64 0)
  simp [Leaves, settle, results, Tryd.results10, go_sem, cp0, cf0, cf1]
  exact ⟨hbg', A5⟩

set_option maxHeartbeats 4000000 in
theorem parse_begun (w : World) : Calls Tryd.prog 5 #[.string ⟨#[110, 111, 100, 101, 32, 109, 97, 105, 110, 40, 120, 58, 32, 105, 110, 116, 41, 32, 45, 62, 32, 40, 121, 58, 32, 105, 110, 116, 41, 32, 123, 32, 121, 32, 61, 32, 120, 32, 45, 32, 49, 32, 45, 32, 50, 59, 32, 125]⟩] w fun r w' => ∃ nb, r = .returned (.tuple #[.agg #[.slice (some ⟨nb, 0, none⟩) 1 1], .agg #[.int .i64 0, .int .i64 0]]) ∧ BegunAt w.heap.size w' nb ∧ Below w.heap.size w w' := by
  go_enter Tryd.func5, Tryd.ntmps5
  go_wp2_with fail
  refine (scan_any ⟨#[110, 111, 100, 101, 32, 109, 97, 105, 110, 40, 120, 58, 32, 105, 110, 116, 41, 32, 45, 62, 32, 40, 121, 58, 32, 105, 110, 116, 41, 32, 123, 32, 121, 32, 61, 32, 120, 32, 45, 32, 49, 32, 45, 32, 50, 59, 32, 125]⟩ _ (by decide)).mono ?_
  rintro r w1 ⟨v, he, hown, b1⟩
  have hs : Tk.scan (⟨#[110, 111, 100, 101, 32, 109, 97, 105, 110, 40, 120, 58, 32, 105, 110, 116, 41, 32, 45, 62, 32, 40, 121, 58, 32, 105, 110, 116, 41, 32, 123, 32, 121, 32, 61, 32, 120, 32, 45, 32, 49, 32, 45, 32, 50, 59, 32, 125]⟩ : ByteArray).data.toList = (begunL, 0, 0) := scan_begun
  rw [hs] at he hown
  subst he
  obtain ⟨ao, g, cap, rfl, hc1, hc2, hT⟩ := toks_slice hown
  obtain ⟨rfl, hg1, hg2, hTk⟩ := hT (by decide)
  clear hT hown
  go_wp2_with fail
  refine (readProgram_begun (hTk.keep (keepB _ hg2)) (by simp; omega) hc1 hc2).mono ?_
  rintro r w3 ⟨nb, rfl, hbg, b3⟩
  have z1 : w.heap.size + 1 + 1 ≤ w1.heap.size := by simpa using b1.size
  have z3 : w1.heap.size + 1 ≤ w3.heap.size := by simpa using b3.size
  have hP := (aside b3 (S := [])).keep (keep_alloc ((aside b1 (S := [])).keep (keep_alloc (heap_new w _) _) (by simp; omega) (by simp)) _) (by simp; omega) (by simp)
  have hF0 := heap_new (w.alloc (.cells #[.slice none 0 0] 25 (0, 0))) (.cells #[.int .i64 0, .int .i64 0] 27 (0, 0))
  have e1 : (w.alloc (.cells #[.slice none 0 0] 25 (0, 0))).heap.size = w.heap.size + 1 := by simp
  rw [e1] at hF0
  have hF := (aside b3 (S := [])).keep (keep_alloc ((aside b1 (S := [])).keep hF0 (by simp) (by simp)) (.cells #[.int .i64 0, .int .i64 0] 27 (0, 0))) (by simp; omega) (by simp)
  have B3 : Below w.heap.size w w3 := ((((Below.refl _ w).alloc (Nat.le_refl _) _).alloc (by simp) _).trans (b1.mono (by simp; omega))).alloc (by omega) _ |>.trans (b3.mono (by simp; omega))
  have cp0 := cell_of hP 0
  have fp0 := free_of hP 0
  have cf0 := cell_of hF 0
  have ff0 := free_of hF 0
  have cf1 := cell_of hF 1
  have ff1 := free_of hF 1
  simp at cp0 cf0 cf1
  go_wp2
  have hbg' : BegunAt w.heap.size (((w3.setCell ⟨w.heap.size, 0, none⟩ (.slice (some ⟨nb, 0, none⟩) 1 1)).setCell ⟨w.heap.size + 1, 0, none⟩ (.int .i64 0)).setCell ⟨w.heap.size + 1, 1, none⟩ (.int .i64 0)) nb := by
    have h0 := hbg.keep (w' := (((w3.setCell ⟨w.heap.size, 0, none⟩ (.slice (some ⟨nb, 0, none⟩) 1 1)).setCell ⟨w.heap.size + 1, 0, none⟩ (.int .i64 0)).setCell ⟨w.heap.size + 1, 1, none⟩ (.int .i64 0))) (by simp [World.setCell]) (fun k hk _ => by
      simp at hk
      rw [Below.heap_setCell _ _ _ _ (by simp; omega), Below.heap_setCell _ _ _ _ (by simp; omega), Below.heap_setCell _ _ _ _ (by simp; omega)])
    obtain ⟨q, cq, bk, h1, h2, h3, h4, h5, h6, h7⟩ := h0
    simp at h1 h3 h5
    exact ⟨q, cq, bk, by omega, h2, by omega, h4, by omega, h6, h7⟩
  exact bodyPost_ret (v := .tuple #[.agg #[.slice (some ⟨nb, 0, none⟩) 1 1], .agg #[.int .i64 0, .int .i64 0]]) (by simp [results, Tryd.results5, go_sem, cp0, cf0, cf1]) rfl ⟨nb, rfl, hbg', ((B3.setCell (p := ⟨w.heap.size, 0, none⟩) (Nat.le_refl _) _).setCell (p := ⟨w.heap.size + 1, 0, none⟩) (Nat.le_succ _) _).setCell (p := ⟨w.heap.size + 1, 1, none⟩) (Nat.le_succ _) _⟩

set_option maxHeartbeats 4000000 in
theorem begun_any (w : World) : Calls Tryd.prog 4 #[] w fun e w' => e = .returned (.bool true) ∧ Below w.heap.size w w' := by
  go_enter Tryd.func4, Tryd.ntmps4
  go_wp2_with fail
  refine (parse_begun _).mono ?_
  rintro r w1 ⟨nb, rfl, ⟨q, cq, bk, h1, h2, h3, h4, h5, h6, h7, h8, h9, h10⟩, b1⟩
  have c1 := fun o o' => (((Below.refl w1.heap.size w1).alloc (Nat.le_refl _) o).alloc (by simp) o').cell (p := ⟨nb, 6, none⟩) h2 |>.trans h8
  have c2 := fun o o' => (((Below.refl w1.heap.size w1).alloc (Nat.le_refl _) o).alloc (by simp) o').cell (p := ⟨q, 4, none⟩) h4 |>.trans h9
  have c3 := fun o o' => (((Below.refl w1.heap.size w1).alloc (Nat.le_refl _) o).alloc (by simp) o').cell (p := ⟨bk, 1, none⟩) h6 |>.trans h10
  go_wp2
  go_ret
  exact ⟨rfl, (b1.alloc b1.size _).alloc (by have := b1.size; simp; omega) _⟩

end Go.Proofs.YtmgaeapckfdbpaaDoor


/-
  DERIVED. THE WALKS of readProgram and of Parse, whatever comes, over the contract of the reader's forms.
-/
namespace Go.Proofs.YtmgaeapckfdbpaaDoor
open Go.RowKit Go.IntWalk
set_option linter.unusedVariables false
set_option linter.unusedSimpArgs false
set_option maxRecDepth 100000

theorem nodes_of {ok : Nat → Prop} {w : World} {v : Value} {l : List Nd} (h : HNds ok w v l) : HRow kNode ok w v l := h
theorem HNds.wide' {ok ok' : Nat → Prop} {w : World} {v : Value} {l : List Nd} (h : HNds ok w v l) (hk : ∀ i, ok i → i < w.heap.size → ok' i) : HNds ok' w v l := HRow.wide (T := kNode) h hk

def RPost (w : World) (res : Res (List Nd)) (r : Ending) (w' : World) : Prop :=
  Below w.heap.size w w' ∧
  match res with
  | .ok l _ => ∃ a n c, r = .returned (.tuple #[.agg #[.slice a n c], .agg #[.int .i64 0, .int .i64 0]]) ∧ HNds (fun i => w.heap.size ≤ i) w' (.slice a n c) l
  | .err c a => r = .returned (.tuple #[.agg #[.slice none 0 0], .agg #[.int .i64 (c : Int), .int .i64 (a : Int)]])

set_option maxHeartbeats 8000000 in
theorem readProgram_any (hform : FormC) {I : Inp} (hL : I.L.length ≤ 1099511627776) {w : World} {g cap : Nat} (ht : HoldsToks w g I.L) (hg : g < w.heap.size) (hc : I.L.length ≤ cap) (hm : cap ≤ maxLen) (hG : GlobT w) :
    Calls Tryd.prog 10 #[.slice (some ⟨g, 0, none⟩) I.L.length cap, .int .i64 (I.len : Int)] w (RPost w (Ps.program I)) := by
  have hmf := makes
  obtain ⟨W1, hW1⟩ : ∃ W, W = w.alloc (.cells #[.slice none 0 0] 25 (0, 0)) := ⟨_, rfl⟩
  obtain ⟨W2, hW2⟩ : ∃ W, W = W1.alloc (.cells #[.int .i64 0, .int .i64 0] 27 (0, 0)) := ⟨_, rfl⟩
  obtain ⟨W3, hW3⟩ : ∃ W, W = W2.alloc (.cells #[.slice (some ⟨g, 0, none⟩) I.L.length cap, .int .i64 0, .int .i64 (I.len : Int), .int .i64 0] 68 (0, 0)) := ⟨_, rfl⟩
  have y1 : W1.heap.size = w.heap.size + 1 := by rw [hW1]; simp
  have y2 : W2.heap.size = w.heap.size + 1 + 1 := by rw [hW2]; simp [y1]
  have y3 : W3.heap.size = w.heap.size + 1 + 1 + 1 := by rw [hW3]; simp [y2]
  have bW : Below w.heap.size w W3 := by rw [hW3, hW2, hW1]; exact (((Below.refl _ w).alloc (Nat.le_refl _) _).alloc (by simp) _).alloc (by simp; omega) _
  have hP : W3.heap[w.heap.size]? = some (.cells #[.slice none 0 0] 25 (0, 0)) := by rw [hW3, hW2, hW1]; exact keep_alloc (keep_alloc (heap_new w _) _) _
  have hF : W3.heap[w.heap.size + 1]? = some (.cells #[.int .i64 0, .int .i64 0] 27 (0, 0)) := by rw [hW3, hW2, ← y1]; exact keep_alloc (heap_new W1 _) _
  have hB : W3.heap[w.heap.size + 1 + 1]? = some (.cells #[.slice (some ⟨g, 0, none⟩) I.L.length cap, .int .i64 0, .int .i64 (I.len : Int), .int .i64 0] 68 (0, 0)) := by rw [hW3, ← y2]; exact heap_new W2 _
  have hR : Rd W3 (w.heap.size + 1 + 1) g cap I.L I.len 0 0 := ⟨hB, ht.keep (bW.block g hg), by omega, by omega, Nat.zero_le _, hc, hm⟩
  go_enter_defers Tryd.func10, Tryd.ntmps10
  go_wp2_with fail
  rw [← hW1, ← hW2, ← hW3]
  refine (program_any hform hL hR ⟨by have := hG.1; omega, hG.keep bW.size (bW.block 1 hG.1)⟩).mono ?_
  rintro r w4 ⟨a4, hres⟩
  have z4 := a4.size
  have hP4 := a4.keep hP (by omega) (by simp; omega)
  have hF4 := a4.keep hF (by omega) (by simp)
  have A4 : Below w.heap.size w w4 := bW.trans ((a4.mono (B' := w.heap.size) (by omega)).below (by simp; omega))
  have cp0 := cell_of hP4 0
  have fp0 := free_of hP4 0
  have cf0 := cell_of hF4 0
  have ff0 := free_of hF4 0
  have cf1 := cell_of hF4 1
  have ff1 := free_of hF4 1
  simp at cp0 cf0 cf1
  clear hR hB hP hF bW a4 hW1 hW2 hW3
  cases hp : Ps.program I with
  | ok l n =>
    rw [hp] at hres
    obtain ⟨_, h4, _, rfl, a, n', c, rfl, hN⟩ := hres
    clear h4
    go_wp2
    refine leaves_cons (f := 25) (args := #[.pointer (some ⟨w.heap.size, 0, none⟩), .pointer (some ⟨w.heap.size + 1, 0, none⟩)]) (by simp) (by simp [go_sem]) ?_
    refine (caught_idle ⟨w.heap.size, 0, none⟩ ⟨w.heap.size + 1, 0, none⟩ _).mono ?_
    rintro e u' w'' ⟨rfl, rfl, rfl⟩
    have A5 := ((A4.setCell (p := ⟨w.heap.size, 0, none⟩) (Nat.le_refl _) (.slice a n' c)).setCell (p := ⟨w.heap.size + 1, 0, none⟩) (Nat.le_succ _) (.int .i64 0)).setCell (p := ⟨w.heap.size + 1, 1, none⟩) (Nat.le_succ _) (.int .i64 0)
    have hN5 := ((nodes_of (hN.wide' (ok' := fun i => w.heap.size + 1 < i) (fun i hi _ => by omega))).set (p := ⟨w.heap.size, 0, none⟩) (by simp) (.slice a n' c) |>.set (p := ⟨w.heap.size + 1, 0, none⟩) (by simp) (.int .i64 0) |>.set (p := ⟨w.heap.size + 1, 1, none⟩) (by simp) (.int .i64 0)).wide (ok' := fun i => w.heap.size ≤ i) (fun i hi _ => by omega)
    simp [Leaves, settle, results, Tryd.results10, go_sem, cp0, cf0, cf1]
    refine ⟨A5, ?_⟩
    rw [hp]
    exact ⟨a, n', c, rfl, nodes_row hN5⟩
  | err c a =>
    rw [hp] at hres
    obtain rfl : r = _ := hres
    unfold upE
    refine leaves_cons (f := 25) (args := #[.pointer (some ⟨w.heap.size, 0, none⟩), .pointer (some ⟨w.heap.size + 1, 0, none⟩)]) (by simp) (by simp [go_sem]) ?_
    refine (caught_up w.heap.size (w.heap.size + 1) c a _ _ _ _ hP4 hF4 (by omega)).mono ?_
    rintro e u' w5 ⟨rfl, rfl, hP5, hF5, a5⟩
    have p0 := cell_of hP5 0
    have f0 := cell_of hF5 0
    have f1 := cell_of hF5 1
    simp at p0 f0 f1
    have A5 : Below w.heap.size w w5 := A4.trans ((a5.mono (B' := w.heap.size) (by have := A4.size; omega)).below (by simp))
    simp [Leaves, settle, results, Tryd.results10, go_sem, p0, f0, f1, upV]
    exact ⟨A5, rfl⟩

end Go.Proofs.YtmgaeapckfdbpaaDoor
