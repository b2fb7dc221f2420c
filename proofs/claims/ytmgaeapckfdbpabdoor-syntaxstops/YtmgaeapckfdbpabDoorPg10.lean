
/-
  DERIVED. THE WALKS of the reader's signs ahead, whatever comes.
-/
import Derived.Test.YtmgaeapckfdbpabDoorM18
namespace Go.Proofs.YtmgaeapckfdbpabDoor
open Go.RowKit Go.IntWalk
set_option linter.unusedVariables false
set_option linter.unusedSimpArgs false
set_option maxRecDepth 100000

/-- what stands behind what opens: too much is open, or so it is read -/
def Inner (b g cap : Nat) (I : Inp) (op : Nat) (J : Option (Nat → Res Ex)) : Prop :=
  match J with
  | none => 60 ≤ op
  | some A => op < 60 ∧ Does 66 b g cap I (op + 1) exV A

theorem enter123 (args : Array Value) (w : World) : (callFunc 70 args).run Tryd.prog w = .ok (.enter 70 args) w := by kernel_rfl
theorem enter124 (args : Array Value) (w : World) : (callFunc 71 args).run Tryd.prog w = .ok (.enter 71 args) w := by kernel_rfl
theorem enter125 (args : Array Value) (w : World) : (callFunc 72 args).run Tryd.prog w = .ok (.enter 72 args) w := by kernel_rfl
theorem enter126 (args : Array Value) (w : World) : (callFunc 73 args).run Tryd.prog w = .ok (.enter 73 args) w := by kernel_rfl
theorem enter128 (args : Array Value) (w : World) : (callFunc 75 args).run Tryd.prog w = .ok (.enter 75 args) w := by kernel_rfl
theorem enter135 (args : Array Value) (w : World) : (callFunc 82 args).run Tryd.prog w = .ok (.enter 82 args) w := by kernel_rfl

set_option maxHeartbeats 4000000 in
theorem signed1_any {b g cap : Nat} {I : Inp} {op nx kb rb : Nat} {k : Int} {A : Nat → Res Ex} (HA : Does 66 b g cap I op exV A) {w : World} (h : Rd w b g cap I.L I.len nx op) (hG : GlobB b w) (hk : w.heap[kb]? = some (.cells #[.int .i64 k] 3 (0, 0))) (hr : w.heap[rb]? = some (.cells #[.pointer (some ⟨b, 0, none⟩)] 59 (0, 0))) (nk : kb ≠ b) (nr : rb ≠ b) :
    Calls Tryd.prog 71 #[.pointer (some ⟨kb, 0, none⟩), .pointer (some ⟨rb, 0, none⟩)] w (Post b g cap I op exV nx w (Ps.signed A k nx)) := by
  have hb := h.bb
  have hg := h.gb
  have zk := lt_of hk
  have zr := lt_of hr
  go_enter Tryd.func71, Tryd.ntmps71
  go_upto_region 1 with fail
  have h1 : Rd (w.alloc (.cells #[.int .i64 0, .int .i64 0, .int .i64 0, .string ⟨#[]⟩, .slice none 0 0, .slice none 0 0] 47 (0, 0))).drew b g cap I.L I.len nx op := (h.alloc _).drew
  have A1 : Aside [b] w.heap.size w (w.alloc (.cells #[.int .i64 0, .int .i64 0, .int .i64 0, .string ⟨#[]⟩, .slice none 0 0, .slice none 0 0] 47 (0, 0))).drew := ((Aside.refl w).alloc (Nat.le_refl _) _).drew
  have hN1 : (w.alloc (.cells #[.int .i64 0, .int .i64 0, .int .i64 0, .string ⟨#[]⟩, .slice none 0 0, .slice none 0 0] 47 (0, 0))).drew.heap[w.heap.size]? = some (.cells #[.int .i64 0, .int .i64 0, .int .i64 0, .string ⟨#[]⟩, .slice none 0 0, .slice none 0 0] 47 (0, 0)) := heap_new w _
  have hk1 : (w.alloc (.cells #[.int .i64 0, .int .i64 0, .int .i64 0, .string ⟨#[]⟩, .slice none 0 0, .slice none 0 0] 47 (0, 0))).drew.heap[kb]? = some (.cells #[.int .i64 k] 3 (0, 0)) := keep_alloc hk _
  have hr1 : (w.alloc (.cells #[.int .i64 0, .int .i64 0, .int .i64 0, .string ⟨#[]⟩, .slice none 0 0, .slice none 0 0] 47 (0, 0))).drew.heap[rb]? = some (.cells #[.pointer (some ⟨b, 0, none⟩)] 59 (0, 0)) := keep_alloc hr _
  have z1 : (w.alloc (.cells #[.int .i64 0, .int .i64 0, .int .i64 0, .string ⟨#[]⟩, .slice none 0 0, .slice none 0 0] 47 (0, 0))).drew.heap.size = w.heap.size + 1 := by show (w.alloc _).heap.size = _; simp
  refine wp_region_late (fun w' => w'.cell? ⟨kb, 0, none⟩ = some (.int .i64 k) ∧ w'.cell? ⟨rb, 0, none⟩ = some (.pointer (some ⟨b, 0, none⟩))) (fun j => decide (j = 5)) (by kernel_rfl) ?_
  generalize (w.alloc (.cells #[.int .i64 0, .int .i64 0, .int .i64 0, .string ⟨#[]⟩, .slice none 0 0, .slice none 0 0] 47 (0, 0))).drew = w1 at h1 A1 hN1 hk1 hr1 z1 ⊢
  have ck := cell_of hk1 0
  have cr := cell_of hr1 0
  simp at ck cr
  have hH := And.intro ck cr
  refine' wpAnyL_take (i := 0) (oi := { dst := some 3, op := Op.load 3 (Operand.tmp 0), type := 3, pos := "expr.go:132", after := #[], guard := none }) (v := _) rfl (by kernel_rfl) (by kernel_rfl) (by kernel_rfl) (by kernel_rfl) (fun _ _ _ h => h) hH (by rfl) ?hyv ?onw
  case hyv =>
    intro wz hSw
    obtain ⟨c0, c1⟩ := hSw
    go_simp
    try rfl
  case onw =>
    try simp only [Act.put, List.setIfInBounds_toArray, List.set_cons_zero, List.set_cons_succ]
    refine' wpAnyL_take (i := 1) (oi := { dst := some 4, op := Op.load 59 (Operand.tmp 1), type := 59, pos := "expr.go:132", after := #[], guard := none }) (v := _) rfl (by kernel_rfl) (by kernel_rfl) (by kernel_rfl) (by kernel_rfl) (fun _ _ _ h => h) hH (by rfl) ?hyv ?onw
    case hyv =>
      intro wz hSw
      obtain ⟨c0, c1⟩ := hSw
      go_simp
      try rfl
    case onw =>
      try simp only [Act.put, List.setIfInBounds_toArray, List.set_cons_zero, List.set_cons_succ]
      refine wpAnyL_one (i := 2) (o := { dst := some 5, op := Op.call { callee := Callee.value (Operand.func 66), args := #[Operand.tmp 4], argTypes := #[59] }, type := 47, pos := "expr.go:132", after := #[{ on := 1, ground := Ground.data }], guard := none }) rfl (by kernel_rfl) (by rfl) (fun K hK => ?_)
      go_simp
      refine (HA _ _ h1 (hG.far A1)).mono ?_
      rintro e w3 ⟨a3, hres⟩
      have z3 := a3.size
      have A3 := A1.trans a3 A1.size
      have hN3 := a3.keep hN1 (by omega) (by simp; omega)
      have hk3 := a3.keep hk1 (by omega) (by simp; omega)
      have hr3 := a3.keep hr1 (by omega) (by simp; omega)
      clear a3 A1 hN1 h1 hk1 hr1 hH ck cr
      cases ht : A nx with
      | err c0 a0 =>
        rw [ht] at hres
        obtain rfl : e = _ := hres
        exact ⟨rfl, Post.fail (by unfold Ps.signed; rw [ht]; rfl) A3⟩
      | ok e0 n1 =>
        rw [ht] at hres
        obtain ⟨le3, h3, _, rfl, y, rfl, he3⟩ := hres
        have hm : Hid (Ps.signed A k nx = .ok (.mk 4 k 0 ⟨#[]⟩ [] [e0]) n1) := by
          show Ps.signed A k nx = _
          unfold Ps.signed
          rw [ht]
          rfl
        clear ht
        have ck := cell_of hk3 0
        have cr := cell_of hr3 0
        simp at ck cr
        refine hK.out _ _ (fun _ => And.intro ck cr) ?_
        clear hK K
        try simp only [Act.put, List.setIfInBounds_toArray, List.set_cons_zero, List.set_cons_succ]
        have hlt : w.heap.size < w3.heap.size := by omega
        have fa := fun o => free_of hN3 o
        have ca0 := cell_of hN3 0
        have ca1 := cell_of hN3 1
        have ca2 := cell_of hN3 2
        have ca3 := cell_of hN3 3
        have ca4 := cell_of hN3 4
        have ca5 := cell_of hN3 5
        simp at ca0 ca1 ca2 ca3 ca4 ca5
        have ck4 := cell_of (keep_alloc hk3 (.cells #[.int .i64 y.op, .int .i64 y.k, .int .i64 y.n, .string y.name, .slice y.aS y.nS y.cS, .slice y.aL y.nL y.cL] 47 (0, 0))) 0
        have cr4 := cell_of (keep_alloc hr3 (.cells #[.int .i64 y.op, .int .i64 y.k, .int .i64 y.n, .string y.name, .slice y.aS y.nS y.cS, .slice y.aL y.nL y.cL] 47 (0, 0))) 0
        simp only [List.getElem?_toArray, List.getElem?_cons_zero] at ck4 cr4
        have H4 := hide (And.intro ck4 cr4)
        clear ck4 cr4
        refine wpAnyL_one (i := 3) (o := { dst := some 6, op := Op.buildSlice 43 1 #[(0, Operand.tmp 5)], type := 43, pos := "expr.go:132", after := #[{ on := 2, ground := Ground.data }], guard := none }) rfl (by kernel_rfl) (by rfl) (fun K hK => ?_)
        go_simp
        refine hK.out _ _ (fun _ => H4.out) ?_
        clear hK K
        try simp only [Act.put, List.setIfInBounds_toArray, List.set_cons_zero, List.set_cons_succ]
        refine wpAnyL_one (i := 4) (o := { dst := some 7, op := Op.build 47 #[(0, Operand.const (Value.int IntKind.i64 4)), (1, Operand.tmp 3), (5, Operand.tmp 6)], type := 47, pos := "expr.go:132", after := #[{ on := 0, ground := Ground.data }, { on := 3, ground := Ground.data }], guard := none }) rfl (by kernel_rfl) (by rfl) (fun K hK => ?_)
        go_simp
        refine hK.out _ _ (fun _ => H4.out) ?_
        clear hK K
        try simp only [Act.put, List.setIfInBounds_toArray, List.set_cons_zero, List.set_cons_succ]
        refine wpAnyL_one (i := 5) (o := { dst := none, op := Op.store 47 (Operand.tmp 2) (Operand.tmp 7), type := 0, pos := "expr.go:132", after := #[{ on := 4, ground := Ground.data }, { on := 2, ground := Ground.chain }, { on := 0, ground := Ground.phase }, { on := 1, ground := Ground.phase }, { on := 2, ground := Ground.phase }, { on := 3, ground := Ground.phase }, { on := 4, ground := Ground.phase }], guard := none }) rfl (by kernel_rfl) (by rfl) (fun K hK => ?_)
        go_simp
        refine hK.out _ _ (fun h => by cases h) ?_
        clear hK K
        try simp only [Act.put, List.setIfInBounds_toArray, List.set_cons_zero, List.set_cons_succ]
        refine wpAnyL_done (by kernel_rfl) ?_ _
        go_wp2_with fail
        have q := he3.wide (ok' := fun i => w.heap.size < i) (fun i hi _ => by omega)
        have zP : (put6 w3 w.heap.size ⟨4, k, 0, ⟨#[]⟩, none, 0, 0, some ⟨w3.heap.size, 0, none⟩, 1, 1⟩).heap.size = w3.heap.size := put6_size _ _ _
        have hLit := exprs_lit1 (q.put6 (k := w.heap.size) (by simp) ⟨4, k, 0, ⟨#[]⟩, none, 0, 0, some ⟨w3.heap.size, 0, none⟩, 1, 1⟩) 47 (by rw [zP]; omega)
        rw [zP] at hLit
        refine bodyPost_ret (v := .agg #[.int .i64 4, .int .i64 k, .int .i64 0, .string ⟨#[]⟩, .slice none 0 0, .slice (some ⟨w3.heap.size, 0, none⟩) 1 1]) (by simp [results, Tryd.results71, go_sem, ca0, ca1, ca2, ca3, ca4, ca5, hlt]) rfl ?_
        exact Post.good hm.out ((A3.put6 (k := w.heap.size) (Nat.le_refl _) ⟨4, k, 0, ⟨#[]⟩, none, 0, 0, some ⟨w3.heap.size, 0, none⟩, 1, 1⟩).alloc (by rw [zP]; omega) _) (by omega) ((h3.put6 (k := w.heap.size) (by omega) (by omega) ⟨4, k, 0, ⟨#[]⟩, none, 0, 0, some ⟨w3.heap.size, 0, none⟩, 1, 1⟩).alloc _) ⟨⟨4, k, 0, ⟨#[]⟩, none, 0, 0, some ⟨w3.heap.size, 0, none⟩, 1, 1⟩, rfl, (HEx.make (x := ⟨4, k, 0, ⟨#[]⟩, none, 0, 0, some ⟨w3.heap.size, 0, none⟩, 1, 1⟩) (e := .mk 4 k 0 ⟨#[]⟩ [] [e0]) rfl rfl rfl rfl sizes_nil hLit).wide (fun i hi _ => Nat.le_of_lt hi)⟩

set_option maxHeartbeats 4000000 in
theorem signed_any {b g cap : Nat} {I : Inp} {op nx : Nat} (k : Int) {J : Option (Nat → Res Ex)} (HJ : Inner b g cap I op J) (hlt : nx < I.L.length) {w : World} (h : Rd w b g cap I.L I.len nx op) (hG : GlobB b w) :
    Calls Tryd.prog 67 #[.pointer (some ⟨b, 0, none⟩), .int .i64 k] w (Post b g cap I op exV nx w (Ps.opn I J nx fun A n1 => Ps.signed A k n1)) := by
  have hb := h.bb
  have hg := h.gb
  have hmf := makes
  obtain ⟨W, hW⟩ : ∃ W, W = ((w.alloc (.cells #[.pointer (some ⟨b, 0, none⟩)] 59 (0, 0))).alloc (.cells #[.int .i64 k] 3 (0, 0))).alloc (.cells #[.int .i64 0, .int .i64 0, .int .i64 0, .string ⟨#[]⟩, .slice none 0 0, .slice none 0 0] 47 (0, 0)) := ⟨_, rfl⟩
  have zW : W.heap.size = w.heap.size + 1 + 1 + 1 := by rw [hW]; simp
  have bW : Below w.heap.size w W := by rw [hW]; exact (((Below.refl _ w).alloc (Nat.le_refl _) _).alloc (by simp) _).alloc (by simp; omega) _
  have rW : W.heap[w.heap.size]? = some (.cells #[.pointer (some ⟨b, 0, none⟩)] 59 (0, 0)) := by rw [hW]; exact keep_alloc (keep_alloc (heap_new w _) _) _
  have kW : W.heap[w.heap.size + 1]? = some (.cells #[.int .i64 k] 3 (0, 0)) := by
    have := heap_new (w.alloc (.cells #[.pointer (some ⟨b, 0, none⟩)] 59 (0, 0))) (.cells #[.int .i64 k] 3 (0, 0))
    have e : (w.alloc (.cells #[.pointer (some ⟨b, 0, none⟩)] 59 (0, 0))).heap.size = w.heap.size + 1 := by simp
    rw [e] at this
    rw [hW]
    exact keep_alloc this _
  have nW : W.heap[w.heap.size + 1 + 1]? = some (.cells #[.int .i64 0, .int .i64 0, .int .i64 0, .string ⟨#[]⟩, .slice none 0 0, .slice none 0 0] 47 (0, 0)) := by
    have := heap_new ((w.alloc (.cells #[.pointer (some ⟨b, 0, none⟩)] 59 (0, 0))).alloc (.cells #[.int .i64 k] 3 (0, 0))) (.cells #[.int .i64 0, .int .i64 0, .int .i64 0, .string ⟨#[]⟩, .slice none 0 0, .slice none 0 0] 47 (0, 0))
    have e : ((w.alloc (.cells #[.pointer (some ⟨b, 0, none⟩)] 59 (0, 0))).alloc (.cells #[.int .i64 k] 3 (0, 0))).heap.size = w.heap.size + 1 + 1 := by simp
    rw [e] at this
    rw [hW]
    exact this
  have hRW := h.below bW
  have AW : Aside [b] w.heap.size w W := aside bW
  go_enter Tryd.func67, Tryd.ntmps67
  go_wp2_with fail
  rw [← hW]
  clear hW
  cases J with
  | none =>
    refine (opened_deep hRW HJ _).mono ?_
    rintro e w1 ⟨rfl, a1⟩
    exact ⟨rfl, Post.fail rfl (AW.trans a1 AW.size)⟩
  | some A =>
    have HF : ∀ w', Rd w' b g cap I.L I.len (nx + 1) (op + 1) → Aside [b] W.heap.size W w' → Calls Tryd.prog 71 (#[] ++ #[.pointer (some ⟨w.heap.size + 1, 0, none⟩), .pointer (some ⟨w.heap.size, 0, none⟩)]) w' (Post b g cap I (op + 1) (exO fun _ => False) (nx + 1) w' (Ps.signed A k (nx + 1))) := fun w' hr' ha' =>
      (signed1_any HJ.2 hr' (hG.far (AW.trans ha' AW.size)) (ha'.keep kW (by omega) (by simp; omega)) (ha'.keep rW (by omega) (by simp; omega)) (by omega) (by omega)).mono fun e w2 hp => hp.mono fun B w x v hv => exO_of _ hv
    refine (opened_any hRW (fun i hi => hi.elim) HJ.1 hlt enter124 HF).mono ?_
    rintro e w1 ⟨a1, hres⟩
    have z1 := a1.size
    have A1 := AW.trans a1 AW.size
    have hN1 := a1.keep nW (by omega) (by simp; omega)
    cases ht : Ps.signed A k (nx + 1) with
    | err c0 a0 =>
      rw [ht] at hres
      obtain rfl : e = _ := hres
      exact ⟨rfl, Post.fail (by unfold Ps.opn; exact ht) A1⟩
    | ok e0 n1 =>
      rw [ht] at hres
      obtain ⟨le1, h1, _, rfl, hx⟩ := hres
      obtain ⟨y, rfl, he1⟩ := exV_of hx
      have HT := hide ht
      clear ht
      have fa := fun o => free_of hN1 o
      have ca0 := cell_of hN1 0
      have ca1 := cell_of hN1 1
      have ca2 := cell_of hN1 2
      have ca3 := cell_of hN1 3
      have ca4 := cell_of hN1 4
      have ca5 := cell_of hN1 5
      simp at ca0 ca1 ca2 ca3 ca4 ca5
      have he2 := he1.wide (ok' := fun i => w.heap.size + 1 + 1 < i) (fun i hi hl => by omega)
      go_wp2
      refine bodyPost_ret (v := .agg #[.int .i64 y.op, .int .i64 y.k, .int .i64 y.n, .string y.name, .slice y.aS y.nS y.cS, .slice y.aL y.nL y.cL]) (by simp [results, Tryd.results67, go_sem, ca0, ca1, ca2, ca3, ca4, ca5]) rfl ?_
      exact Post.good (by unfold Ps.opn; exact HT.out) (A1.put6 (k := w.heap.size + 1 + 1) (by omega) y) (by omega) (h1.put6 (k := w.heap.size + 1 + 1) (by omega) (by omega) y) ⟨y, rfl, (he2.put6 (k := w.heap.size + 1 + 1) (by simp) y).wide (fun i hi _ => by omega)⟩

end Go.Proofs.YtmgaeapckfdbpabDoor
