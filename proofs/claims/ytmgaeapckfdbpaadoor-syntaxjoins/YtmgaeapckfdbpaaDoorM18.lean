/-
  DERIVED. THE WALKS of the reader's signs ahead, whatever comes.
-/
import Derived.Test.YtmgaeapckfdbpaaDoorM17
namespace Go.Proofs.YtmgaeapckfdbpaaDoor
open Go.RowKit Go.IntWalk
set_option linter.unusedVariables false
set_option linter.unusedSimpArgs false
set_option maxRecDepth 100000

/-- what stands behind what opens: too much is open, or so it is read -/
def Inner (b g cap : Nat) (I : Inp) (op : Nat) (J : Option (Nat → Res Ex)) : Prop :=
  match J with
  | none => 60 ≤ op
  | some A => op < 60 ∧ Does 84 b g cap I (op + 1) exV A

theorem enter123 (args : Array Value) (w : World) : (callFunc 88 args).run Tryd.prog w = .ok (.enter 88 args) w := by kernel_rfl
theorem enter124 (args : Array Value) (w : World) : (callFunc 89 args).run Tryd.prog w = .ok (.enter 89 args) w := by kernel_rfl
theorem enter125 (args : Array Value) (w : World) : (callFunc 90 args).run Tryd.prog w = .ok (.enter 90 args) w := by kernel_rfl
theorem enter126 (args : Array Value) (w : World) : (callFunc 91 args).run Tryd.prog w = .ok (.enter 91 args) w := by kernel_rfl
theorem enter128 (args : Array Value) (w : World) : (callFunc 93 args).run Tryd.prog w = .ok (.enter 93 args) w := by kernel_rfl
theorem enter135 (args : Array Value) (w : World) : (callFunc 100 args).run Tryd.prog w = .ok (.enter 100 args) w := by kernel_rfl

set_option maxHeartbeats 4000000 in
theorem signed1_any {b g cap : Nat} {I : Inp} {op nx kb rb : Nat} {k : Int} {A : Nat → Res Ex} (HA : Does 84 b g cap I op exV A) {w : World} (h : Rd w b g cap I.L I.len nx op) (hG : GlobB b w) (hk : w.heap[kb]? = some (.cells #[.int .i64 k] 3 (0, 0))) (hr : w.heap[rb]? = some (.cells #[.pointer (some ⟨b, 0, none⟩)] 66 (0, 0))) (nk : kb ≠ b) (nr : rb ≠ b) :
    Calls Tryd.prog 89 #[.pointer (some ⟨kb, 0, none⟩), .pointer (some ⟨rb, 0, none⟩)] w (Post b g cap I op exV nx w (Ps.signed A k nx)) := by
  have hb := h.bb
  have hg := h.gb
  have zk := lt_of hk
  have zr := lt_of hr
  go_enter Tryd.func89, Tryd.ntmps89
  go_upto_region 1 with fail
  have h1 : Rd (w.alloc (.cells #[.int .i64 0, .int .i64 0, .int .i64 0, .string ⟨#[]⟩, .slice none 0 0, .slice none 0 0] 46 (0, 0))).drew b g cap I.L I.len nx op := (h.alloc _).drew
  have A1 : Aside [b] w.heap.size w (w.alloc (.cells #[.int .i64 0, .int .i64 0, .int .i64 0, .string ⟨#[]⟩, .slice none 0 0, .slice none 0 0] 46 (0, 0))).drew := ((Aside.refl w).alloc (Nat.le_refl _) _).drew
  have hN1 : (w.alloc (.cells #[.int .i64 0, .int .i64 0, .int .i64 0, .string ⟨#[]⟩, .slice none 0 0, .slice none 0 0] 46 (0, 0))).drew.heap[w.heap.size]? = some (.cells #[.int .i64 0, .int .i64 0, .int .i64 0, .string ⟨#[]⟩, .slice none 0 0, .slice none 0 0] 46 (0, 0)) := heap_new w _
  have hk1 : (w.alloc (.cells #[.int .i64 0, .int .i64 0, .int .i64 0, .string ⟨#[]⟩, .slice none 0 0, .slice none 0 0] 46 (0, 0))).drew.heap[kb]? = some (.cells #[.int .i64 k] 3 (0, 0)) := keep_alloc hk _
  have hr1 : (w.alloc (.cells #[.int .i64 0, .int .i64 0, .int .i64 0, .string ⟨#[]⟩, .slice none 0 0, .slice none 0 0] 46 (0, 0))).drew.heap[rb]? = some (.cells #[.pointer (some ⟨b, 0, none⟩)] 66 (0, 0)) := keep_alloc hr _
  have z1 : (w.alloc (.cells #[.int .i64 0, .int .i64 0, .int .i64 0, .string ⟨#[]⟩, .slice none 0 0, .slice none 0 0] 46 (0, 0))).drew.heap.size = w.heap.size + 1 := by show (w.alloc _).heap.size = _; simp
  refine wp_region_late (fun w' => w'.cell? ⟨kb, 0, none⟩ = some (.int .i64 k) ∧ w'.cell? ⟨rb, 0, none⟩ = some (.pointer (some ⟨b, 0, none⟩))) (fun j => decide (j = 5)) (by kernel_rfl) ?_
  generalize (w.alloc (.cells #[.int .i64 0, .int .i64 0, .int .i64 0, .string ⟨#[]⟩, .slice none 0 0, .slice none 0 0] 46 (0, 0))).drew = w1 at h1 A1 hN1 hk1 hr1 z1 ⊢
  have ck := cell_of hk1 0
  have cr := cell_of hr1 0
  simp at ck cr
  have hH := And.intro ck cr
  refine' wpAnyL_take (i := 0) (oi := { dst := some 3, op := Op.load 3 (Operand.tmp 0), type := 3, pos := "expr.go:132", after := #[], guard := none }) (v := _) rfl (by kernel_rfl) (by kernel_rfl) (by kernel_rfl) (by kernel_rfl) (fun _ _ _ h => h) hH (by rfl) ?hyv ?onw
  case hyv =>
    intro wz hSw
    obtain ⟨c0, c1⟩ := hSw
    go_simp
    try rfl
  case onw =>
    try simp only [Act.put, List.setIfInBounds_toArray, List.set_cons_zero, List.set_cons_succ]
    refine' wpAnyL_take (i := 1) (oi := { dst := some 4, op := Op.load 66 (Operand.tmp 1), type := 66, pos := "expr.go:132", after := #[], guard := none }) (v := _) rfl (by kernel_rfl) (by kernel_rfl) (by kernel_rfl) (by kernel_rfl) (fun _ _ _ h => h) hH (by rfl) ?hyv ?onw
    case hyv =>
      intro wz hSw
      obtain ⟨c0, c1⟩ := hSw
      go_simp
      try rfl
    case onw =>
      try simp only [Act.put, List.setIfInBounds_toArray, List.set_cons_zero, List.set_cons_succ]
      refine wpAnyL_one (i := 2) (o := { dst := some 5, op := Op.call { callee := Callee.value (Operand.func 84), args := #[Operand.tmp 4], argTypes := #[66] }, type := 46, pos := "expr.go:132", after := #[{ on := 1, ground := Ground.data }], guard := none }) rfl (by kernel_rfl) (by rfl) (fun K hK => ?_)
      go_simp
      refine (HA _ _ h1 (hG.far A1)).mono ?_
      rintro e w3 ⟨a3, hres⟩
      have z3 := a3.size
      have A3 := A1.trans a3 A1.size
      have hN3 := a3.keep hN1 (by omega) (by simp; omega)
      have hk3 := a3.keep hk1 (by omega) (by simp; omega)
      have hr3 := a3.keep hr1 (by omega) (by simp; omega)
      clear a3 A1 hN1 h1 hk1 hr1 hH ck cr
      cases ht : A nx with
      | err c0 a0 =>
        rw [ht] at hres
        obtain rfl : e = _ := hres
        exact ⟨rfl, Post.fail (by unfold Ps.signed; rw [ht]; rfl) A3⟩
      | ok e0 n1 =>
        rw [ht] at hres
        obtain ⟨le3, h3, _, rfl, y, rfl, he3⟩ := hres
        have hm : Hid (Ps.signed A k nx = .ok (.mk 4 k 0 ⟨#[]⟩ [] [e0]) n1) := by
          show Ps.signed A k nx = _
          unfold Ps.signed
          rw [ht]
          rfl
        clear ht
        have ck := cell_of hk3 0
        have cr := cell_of hr3 0
        simp at ck cr
        refine hK.out _ _ (fun _ => And.intro ck cr) ?_
        clear hK K
        try simp only [Act.put, List.setIfInBounds_toArray, List.set_cons_zero, List.set_cons_succ]
        have hlt : w.heap.size < w3.heap.size := by omega
        have fa := fun o => free_of hN3 o
        have ca0 := cell_of hN3 0
        have ca1 := cell_of hN3 1
        have ca2 := cell_of hN3 2
        have ca3 := cell_of hN3 3
        have ca4 := cell_of hN3 4
        have ca5 := cell_of hN3 5
        simp at ca0 ca1 ca2 ca3 ca4 ca5
        have ck4 := cell_of (keep_alloc hk3 (.cells #[.int .i64 y.op, .int .i64 y.k, .int .i64 y.n, .string y.name, .slice y.aS y.nS y.cS, .slice y.aL y.nL y.cL] 46 (0, 0))) 0
        have cr4 := cell_of (keep_alloc hr3 (.cells #[.int .i64 y.op, .int .i64 y.k, .int .i64 y.n, .string y.name, .slice y.aS y.nS y.cS, .slice y.aL y.nL y.cL] 46 (0, 0))) 0
        simp only [List.getElem?_toArray, List.getElem?_cons_zero] at ck4 cr4
        have H4 := hide (And.intro ck4 cr4)
        clear ck4 cr4
        refine wpAnyL_one (i := 3) (o := { dst := some 6, op := Op.buildSlice 42 1 #[(0, Operand.tmp 5)], type := 42, pos := "expr.go:132", after := #[{ on := 2, ground := Ground.data }], guard := none }) rfl (by kernel_rfl) (by rfl) (fun K hK => ?_)
        go_simp
        refine hK.out _ _ (fun _ => H4.out) ?_
        clear hK K
        try simp only [Act.put, List.setIfInBounds_toArray, List.set_cons_zero, List.set_cons_succ]
        refine wpAnyL_one (i := 4) (o := { dst := some 7, op := Op.build 46 #[(0, Operand.const (Value.int IntKind.i64 4)), (1, Operand.tmp 3), (5, Operand.tmp 6)], type := 46, pos := "expr.go:132", after := #[{ on := 0, ground := Ground.data }, { on := 3, ground := Ground.data }], guard := none }) rfl (by kernel_rfl) (by rfl) (fun K hK => ?_)
        go_simp
        refine hK.out _ _ (fun _ => H4.out) ?_
        clear hK K
        try simp only [Act.put, List.setIfInBounds_toArray, List.set_cons_zero, List.set_cons_succ]
        refine wpAnyL_one (i := 5) (o := { dst := none, op := Op.store 46 (Operand.tmp 2) (Operand.tmp 7), type := 0, pos := "expr.go:132", after := #[{ on := 4, ground := Ground.data }, { on := 2, ground := Ground.chain }, { on := 0, ground := Ground.phase }, { on := 1, ground := Ground.phase }, { on := 2, ground := Ground.phase }, { on := 3, ground := Ground.phase }, { on := 4, ground := Ground.phase }], guard := none }) rfl (by kernel_rfl) (by rfl) (fun K hK => ?_)
        go_simp
        refine hK.out _ _ (fun h => by cases h) ?_
        clear hK K
        try simp only [Act.put, List.setIfInBounds_toArray, List.set_cons_zero, List.set_cons_succ]
        refine wpAnyL_done (by kernel_rfl) ?_ _
        go_wp2_with fail
        have q := he3.wide (ok' := fun i => w.heap.size < i) (fun i hi _ => by omega)
        have zP : (put6 w3 w.heap.size ⟨4, k, 0, ⟨#[]⟩, none, 0, 0, some ⟨w3.heap.size, 0, none⟩, 1, 1⟩).heap.size = w3.heap.size := put6_size _ _ _
        have hLit := exprs_lit1 (q.put6 (k := w.heap.size) (by simp) ⟨4, k, 0, ⟨#[]⟩, none, 0, 0, some ⟨w3.heap.size, 0, none⟩, 1, 1⟩) 46 (by rw [zP]; omega)
        rw [zP] at hLit
        refine bodyPost_ret (v := .agg #[.int .i64 4, .int .i64 k, .int .i64 0, .string ⟨#[]⟩, .slice none 0 0, .slice (some ⟨w3.heap.size, 0, none⟩) 1 1]) (by simp [results, Tryd.results89, go_sem, ca0, ca1, ca2, ca3, ca4, ca5, hlt]) rfl ?_
        exact Post.good hm.out ((A3.put6 (k := w.heap.size) (Nat.le_refl _) ⟨4, k, 0, ⟨#[]⟩, none, 0, 0, some ⟨w3.heap.size, 0, none⟩, 1, 1⟩).alloc (by rw [zP]; omega) _) (by omega) ((h3.put6 (k := w.heap.size) (by omega) (by omega) ⟨4, k, 0, ⟨#[]⟩, none, 0, 0, some ⟨w3.heap.size, 0, none⟩, 1, 1⟩).alloc _) ⟨⟨4, k, 0, ⟨#[]⟩, none, 0, 0, some ⟨w3.heap.size, 0, none⟩, 1, 1⟩, rfl, (HEx.make (x := ⟨4, k, 0, ⟨#[]⟩, none, 0, 0, some ⟨w3.heap.size, 0, none⟩, 1, 1⟩) (e := .mk 4 k 0 ⟨#[]⟩ [] [e0]) rfl rfl rfl rfl sizes_nil hLit).wide (fun i hi _ => Nat.le_of_lt hi)⟩

set_option maxHeartbeats 4000000 in
theorem signed_any {b g cap : Nat} {I : Inp} {op nx : Nat} (k : Int) {J : Option (Nat → Res Ex)} (HJ : Inner b g cap I op J) (hlt : nx < I.L.length) {w : World} (h : Rd w b g cap I.L I.len nx op) (hG : GlobB b w) :
    Calls Tryd.prog 85 #[.pointer (some ⟨b, 0, none⟩), .int .i64 k] w (Post b g cap I op exV nx w (Ps.opn I J nx fun A n1 => Ps.signed A k n1)) := by
  have hb := h.bb
  have hg := h.gb
  have hmf := makes
  obtain ⟨W, hW⟩ : ∃ W, W = ((w.alloc (.cells #[.pointer (some ⟨b, 0, none⟩)] 66 (0, 0))).alloc (.cells #[.int .i64 k] 3 (0, 0))).alloc (.cells #[.int .i64 0, .int .i64 0, .int .i64 0, .string ⟨#[]⟩, .slice none 0 0, .slice none 0 0] 46 (0, 0)) := ⟨_, rfl⟩
  have zW : W.heap.size = w.heap.size + 1 + 1 + 1 := by rw [hW]; simp
  have bW : Below w.heap.size w W := by rw [hW]; exact (((Below.refl _ w).alloc (Nat.le_refl _) _).alloc (by simp) _).alloc (by simp; omega) _
  have rW : W.heap[w.heap.size]? = some (.cells #[.pointer (some ⟨b, 0, none⟩)] 66 (0, 0)) := by rw [hW]; exact keep_alloc (keep_alloc (heap_new w _) _) _
  have kW : W.heap[w.heap.size + 1]? = some (.cells #[.int .i64 k] 3 (0, 0)) := by
    have := heap_new (w.alloc (.cells #[.pointer (some ⟨b, 0, none⟩)] 66 (0, 0))) (.cells #[.int .i64 k] 3 (0, 0))
    have e : (w.alloc (.cells #[.pointer (some ⟨b, 0, none⟩)] 66 (0, 0))).heap.size = w.heap.size + 1 := by simp
    rw [e] at this
    rw [hW]
    exact keep_alloc this _
  have nW : W.heap[w.heap.size + 1 + 1]? = some (.cells #[.int .i64 0, .int .i64 0, .int .i64 0, .string ⟨#[]⟩, .slice none 0 0, .slice none 0 0] 46 (0, 0)) := by
    have := heap_new ((w.alloc (.cells #[.pointer (some ⟨b, 0, none⟩)] 66 (0, 0))).alloc (.cells #[.int .i64 k] 3 (0, 0))) (.cells #[.int .i64 0, .int .i64 0, .int .i64 0, .string ⟨#[]⟩, .slice none 0 0, .slice none 0 0] 46 (0, 0))
    have e : ((w.alloc (.cells #[.pointer (some ⟨b, 0, none⟩)] 66 (0, 0))).alloc (.cells #[.int .i64 k] 3 (0, 0))).heap.size = w.heap.size + 1 + 1 := by simp
    rw [e] at this
    rw [hW]
    exact this
  have hRW := h.below bW
  have AW : Aside [b] w.heap.size w W := aside bW
  go_enter Tryd.func85, Tryd.ntmps85
  go_wp2_with fail
  rw [← hW]
  clear hW
  cases J with
  | none =>
    refine (opened_deep hRW HJ _).mono ?_
    rintro e w1 ⟨rfl, a1⟩
    exact ⟨rfl, Post.fail rfl (AW.trans a1 AW.size)⟩
  | some A =>
    have HF : ∀ w', Rd w' b g cap I.L I.len (nx + 1) (op + 1) → Aside [b] W.heap.size W w' → Calls Tryd.prog 89 (#[] ++ #[.pointer (some ⟨w.heap.size + 1, 0, none⟩), .pointer (some ⟨w.heap.size, 0, none⟩)]) w' (Post b g cap I (op + 1) (exO fun _ => False) (nx + 1) w' (Ps.signed A k (nx + 1))) := fun w' hr' ha' =>
      (signed1_any HJ.2 hr' (hG.far (AW.trans ha' AW.size)) (ha'.keep kW (by omega) (by simp; omega)) (ha'.keep rW (by omega) (by simp; omega)) (by omega) (by omega)).mono fun e w2 hp => hp.mono fun B w x v hv => exO_of _ hv
    refine (opened_any hRW (fun i hi => hi.elim) HJ.1 hlt enter124 HF).mono ?_
    rintro e w1 ⟨a1, hres⟩
    have z1 := a1.size
    have A1 := AW.trans a1 AW.size
    have hN1 := a1.keep nW (by omega) (by simp; omega)
    cases ht : Ps.signed A k (nx + 1) with
    | err c0 a0 =>
      rw [ht] at hres
      obtain rfl : e = _ := hres
      exact ⟨rfl, Post.fail (by unfold Ps.opn; exact ht) A1⟩
    | ok e0 n1 =>
      rw [ht] at hres
      obtain ⟨le1, h1, _, rfl, hx⟩ := hres
      obtain ⟨y, rfl, he1⟩ := exV_of hx
      have HT := hide ht
      clear ht
      have fa := fun o => free_of hN1 o
      have ca0 := cell_of hN1 0
      have ca1 := cell_of hN1 1
      have ca2 := cell_of hN1 2
      have ca3 := cell_of hN1 3
      have ca4 := cell_of hN1 4
      have ca5 := cell_of hN1 5
      simp at ca0 ca1 ca2 ca3 ca4 ca5
      have he2 := he1.wide (ok' := fun i => w.heap.size + 1 + 1 < i) (fun i hi hl => by omega)
      go_wp2
      refine bodyPost_ret (v := .agg #[.int .i64 y.op, .int .i64 y.k, .int .i64 y.n, .string y.name, .slice y.aS y.nS y.cS, .slice y.aL y.nL y.cL]) (by simp [results, Tryd.results85, go_sem, ca0, ca1, ca2, ca3, ca4, ca5]) rfl ?_
      exact Post.good (by unfold Ps.opn; exact HT.out) (A1.put6 (k := w.heap.size + 1 + 1) (by omega) y) (by omega) (h1.put6 (k := w.heap.size + 1 + 1) (by omega) (by omega) y) ⟨y, rfl, (he2.put6 (k := w.heap.size + 1 + 1) (by simp) y).wide (fun i hi _ => by omega)⟩

end Go.Proofs.YtmgaeapckfdbpaaDoor


/-
  DERIVED. THE WALKS of the reader's indices, whatever comes.
-/
namespace Go.Proofs.YtmgaeapckfdbpaaDoor
open Go.RowKit Go.IntWalk
set_option linter.unusedVariables false
set_option linter.unusedSimpArgs false
set_option maxRecDepth 100000


set_option maxHeartbeats 8000000 in
theorem indexed1_any {b g cap : Nat} {I : Inp} {op nx rb ab : Nat} {E : Nat → Res Ex} {ok0 : Nat → Prop} {x0 : ExV} {e0 : Ex} (HE : Does 74 b g cap I op exV E) {w : World} (h : Rd w b g cap I.L I.len nx op) (hG : GlobB b w) (hr : w.heap[rb]? = some (.cells #[.pointer (some ⟨b, 0, none⟩)] 66 (0, 0))) (ha : w.heap[ab]? = some (.cells #[.int .i64 x0.op, .int .i64 x0.k, .int .i64 x0.n, .string x0.name, .slice x0.aS x0.nS x0.cS, .slice x0.aL x0.nL x0.cL] 46 (0, 0))) (nr : rb ≠ b) (na : ab ≠ b)
    (hx0 : HEx ok0 w x0.cells e0) (hok : ∀ i, ok0 i → i < w.heap.size ∧ i ≠ b) :
    Calls Tryd.prog 93 #[.pointer (some ⟨rb, 0, none⟩), .pointer (some ⟨ab, 0, none⟩)] w (Post b g cap I op (exO ok0) nx w (Ps.index I E e0 nx)) := by
  have hb := h.bb
  have hg := h.gb
  have zr := lt_of hr
  have za := lt_of ha
  have bN := (Below.refl w.heap.size w).alloc (Nat.le_refl _) (.cells #[.int .i64 0, .int .i64 0, .int .i64 0, .string ⟨#[]⟩, .slice none 0 0, .slice none 0 0] 46 (0, 0))
  have hX0 := (hx0.wide (ok' := fun i => ok0 i ∧ i < w.heap.size ∧ i ≠ b) (fun i hi _ => ⟨hi, hok i hi⟩)).under bN
  have hr0 := keep_alloc hr (.cells #[.int .i64 0, .int .i64 0, .int .i64 0, .string ⟨#[]⟩, .slice none 0 0, .slice none 0 0] 46 (0, 0))
  have ha0 := keep_alloc ha (.cells #[.int .i64 0, .int .i64 0, .int .i64 0, .string ⟨#[]⟩, .slice none 0 0, .slice none 0 0] 46 (0, 0))
  have cr := cell_of hr0 0
  simp only [List.getElem?_toArray, List.getElem?_cons_zero] at cr
  go_enter Tryd.func93, Tryd.ntmps93
  go_wp2_with fail
  refine (HE _ _ (h.alloc _) (hG.alloc _)).mono ?_
  rintro e w1 ⟨a1, hres⟩
  have z1 : w.heap.size + 1 ≤ w1.heap.size := by simpa using a1.size
  have hA1 := a1.keep (heap_new w _) (by simp) (by simp; omega)
  have A1 := ((Aside.refl (S := [b]) (B := w.heap.size) w).alloc (Nat.le_refl _) _).trans a1 (by simp)
  have hr1 := a1.keep hr0 (by simp; omega) (by simp; omega)
  have ha1 := a1.keep ha0 (by simp; omega) (by simp; omega)
  have hX1 := hX0.past a1 (fun i hi => by simp; exact hi.2.2)
  clear cr hr0 ha0 hX0
  cases ht : E nx with
  | err c0 a0 =>
    rw [ht] at hres
    obtain rfl : e = _ := hres
    exact ⟨rfl, Post.fail (by unfold Ps.index; rw [ht]; rfl) A1⟩
  | ok e1 n1 =>
    rw [ht] at hres
    obtain ⟨le1, h1, _, rfl, x1, rfl, he1⟩ := hres
    have m1 : Hid (Ps.index I E e0 nx = (Ps.need I [58] n1).bind fun _ n2 => (E n2).bind fun y n3 => (Ps.need I [93] n3).bind fun _ n4 => .ok (.mk 11 0 0 ⟨#[]⟩ [] [e0, e1, y]) n4) := by
      show Ps.index I E e0 nx = _
      unfold Ps.index
      rw [ht]
      rfl
    clear ht a1
    have b1 := (Below.refl w1.heap.size w1).alloc (Nat.le_refl _) (.cells #[.int .i64 x1.op, .int .i64 x1.k, .int .i64 x1.n, .string x1.name, .slice x1.aS x1.nS x1.cS, .slice x1.aL x1.nL x1.cL] 46 (0, 0))
    have hr1' := keep_alloc hr1 (.cells #[.int .i64 x1.op, .int .i64 x1.k, .int .i64 x1.n, .string x1.name, .slice x1.aS x1.nS x1.cS, .slice x1.aL x1.nL x1.cL] 46 (0, 0))
    have ha1' := keep_alloc ha1 (.cells #[.int .i64 x1.op, .int .i64 x1.k, .int .i64 x1.n, .string x1.name, .slice x1.aS x1.nS x1.cS, .slice x1.aL x1.nL x1.cL] 46 (0, 0))
    have he2 := (he1.wide (ok' := fun i => w.heap.size < i ∧ i < w1.heap.size) (fun i hi hl => by simp at hi; omega)).under b1
    have hX1' := hX1.under b1
    have cr := cell_of hr1' 0
    simp only [List.getElem?_toArray, List.getElem?_cons_zero] at cr
    go_wp2_with fail
    refine (need_any (h1.alloc _) ⟨#[58]⟩ (by decide)).mono ?_
    rintro e w2 ⟨a2, hres⟩
    have es : (⟨#[58]⟩ : ByteArray).data.toList = [58] := rfl
    rw [es] at hres
    clear es cr
    have z2 : w1.heap.size + 1 ≤ w2.heap.size := by simpa using a2.size
    have A2 := (A1.alloc (by omega) _).trans a2 (by simp; omega)
    have hA2 := a2.keep (keep_alloc hA1 _) (by simp; omega) (by simp; omega)
    have hT2 := a2.keep (heap_new w1 _) (by simp) (by simp; omega)
    have hr2 := a2.keep hr1' (by simp; omega) (by simp; omega)
    have ha2 := a2.keep ha1' (by simp; omega) (by simp; omega)
    have he3 := he2.past a2 (fun i hi => by simp; omega)
    have hX2 := hX1'.past a2 (fun i hi => by simp; exact hi.2.2)
    clear a2 A1 hA1 he1 he2 h1 hr1 ha1 hr1' ha1' hX1 hX1' b1
    cases hn : Ps.need I [58] n1 with
    | err c0 a0 =>
      rw [hn] at hres
      obtain rfl : e = _ := hres
      exact ⟨rfl, Post.fail (by rw [m1.out, hn]; rfl) A2⟩
    | ok u n2 =>
      rw [hn] at hres
      obtain ⟨le2, h2, _, rfl, rfl⟩ := hres
      have m2 : Hid (Ps.index I E e0 nx = (E n2).bind fun y n3 => (Ps.need I [93] n3).bind fun _ n4 => .ok (.mk 11 0 0 ⟨#[]⟩ [] [e0, e1, y]) n4) := by
        show Ps.index I E e0 nx = _
        rw [m1.out, hn]
        rfl
      clear hn m1
      have cr := cell_of hr2 0
      simp only [List.getElem?_toArray, List.getElem?_cons_zero] at cr
      go_wp2_with fail
      refine (HE _ _ h2 (hG.far A2)).mono ?_
      rintro e w3 ⟨a3, hres⟩
      have z3 := a3.size
      have A3 := A2.trans a3 A2.size
      have hA3 := a3.keep hA2 (by omega) (by simp; omega)
      have hT3 := a3.keep hT2 (by omega) (by simp; omega)
      have hr3 := a3.keep hr2 (by omega) (by simp; omega)
      have ha3 := a3.keep ha2 (by omega) (by simp; omega)
      have he4 := he3.past a3 (fun i hi => by simp; omega)
      have hX3 := hX2.past a3 (fun i hi => by simp; exact hi.2.2)
      clear a3 A2 hA2 hT2 he3 h2 hr2 ha2 hX2 cr
      cases ht : E n2 with
      | err c0 a0 =>
        rw [ht] at hres
        obtain rfl : e = _ := hres
        exact ⟨rfl, Post.fail (by rw [m2.out, ht]; rfl) A3⟩
      | ok e3 n3 =>
        rw [ht] at hres
        obtain ⟨le3, h3, _, rfl, x3, rfl, hf3⟩ := hres
        have m3 : Hid (Ps.index I E e0 nx = (Ps.need I [93] n3).bind fun _ n4 => .ok (.mk 11 0 0 ⟨#[]⟩ [] [e0, e1, e3]) n4) := by
          show Ps.index I E e0 nx = _
          rw [m2.out, ht]
          rfl
        clear ht m2
        have b3 := (Below.refl w3.heap.size w3).alloc (Nat.le_refl _) (.cells #[.int .i64 x3.op, .int .i64 x3.k, .int .i64 x3.n, .string x3.name, .slice x3.aS x3.nS x3.cS, .slice x3.aL x3.nL x3.cL] 46 (0, 0))
        have hf4 := (hf3.wide (ok' := fun i => w1.heap.size < i ∧ i < w3.heap.size) (fun i hi hl => by omega)).under b3
        have he5 := he4.under b3
        have hX4 := hX3.under b3
        have hr3' := keep_alloc hr3 (.cells #[.int .i64 x3.op, .int .i64 x3.k, .int .i64 x3.n, .string x3.name, .slice x3.aS x3.nS x3.cS, .slice x3.aL x3.nL x3.cL] 46 (0, 0))
        have ha3' := keep_alloc ha3 (.cells #[.int .i64 x3.op, .int .i64 x3.k, .int .i64 x3.n, .string x3.name, .slice x3.aS x3.nS x3.cS, .slice x3.aL x3.nL x3.cL] 46 (0, 0))
        have cr := cell_of hr3' 0
        simp only [List.getElem?_toArray, List.getElem?_cons_zero] at cr
        go_wp2_with fail
        refine (need_any (h3.alloc _) ⟨#[93]⟩ (by decide)).mono ?_
        rintro e w4 ⟨a4, hres⟩
        have es : (⟨#[93]⟩ : ByteArray).data.toList = [93] := rfl
        rw [es] at hres
        clear es cr
        have z4 : w3.heap.size + 1 ≤ w4.heap.size := by simpa using a4.size
        have A4 := (A3.alloc A3.size _).trans a4 (by simp; omega)
        have hA4 := a4.keep (keep_alloc hA3 _) (by simp; omega) (by simp; omega)
        have hT4 := a4.keep (keep_alloc hT3 _) (by simp; omega) (by simp; omega)
        have hU4 := a4.keep (heap_new w3 _) (by simp) (by simp; omega)
        have ha4 := a4.keep ha3' (by simp; omega) (by simp; omega)
        have he6 := he5.past a4 (fun i hi => by simp; omega)
        have hf6 := hf4.past a4 (fun i hi => by simp; omega)
        have hX6 := hX4.past a4 (fun i hi => by simp; exact hi.2.2)
        clear a4 A3 hA3 hT3 he4 he5 hf3 hf4 h3 hr3 ha3 hr3' ha3' hX3 hX4 b3
        cases hn : Ps.need I [93] n3 with
        | err c0 a0 =>
          rw [hn] at hres
          obtain rfl : e = _ := hres
          exact ⟨rfl, Post.fail (by rw [m3.out, hn]; rfl) A4⟩
        | ok u n4 =>
          rw [hn] at hres
          obtain ⟨le4, h4, _, rfl, rfl⟩ := hres
          have m4 : Hid (Ps.index I E e0 nx = .ok (.mk 11 0 0 ⟨#[]⟩ [] [e0, e1, e3]) n4) := by
            show Ps.index I E e0 nx = _
            rw [m3.out, hn]
            rfl
          clear hn m3
          have q0 := hX6.wide (ok' := fun i => (ok0 i ∨ w.heap.size < i) ∧ i ≠ w.heap.size) (fun i hi _ => ⟨.inl hi.1, by have := hi.2.1; omega⟩)
          have q1 := he6.wide (ok' := fun i => (ok0 i ∨ w.heap.size < i) ∧ i ≠ w.heap.size) (fun i hi _ => ⟨.inr hi.1, by have := hi.1; omega⟩)
          have q3 := hf6.wide (ok' := fun i => (ok0 i ∨ w.heap.size < i) ∧ i ≠ w.heap.size) (fun i hi _ => ⟨.inr (by omega), by omega⟩)
          have hlt : w.heap.size < w4.heap.size := by omega
          have fa := fun o => free_of hA4 o
          clear he6 hf6 hX6
          have ca0 := cell_of hA4 0
          have ca1 := cell_of hA4 1
          have ca2 := cell_of hA4 2
          have ca3 := cell_of hA4 3
          have ca4 := cell_of hA4 4
          have ca5 := cell_of hA4 5
          simp at ca0 ca1 ca2 ca3 ca4 ca5
          have cb0 := cell_of ha4 0
          have cb1 := cell_of ha4 1
          have cb2 := cell_of ha4 2
          have cb3 := cell_of ha4 3
          have cb4 := cell_of ha4 4
          have cb5 := cell_of ha4 5
          simp at cb0 cb1 cb2 cb3 cb4 cb5
          have cc0 := cell_of hT4 0
          have cc1 := cell_of hT4 1
          have cc2 := cell_of hT4 2
          have cc3 := cell_of hT4 3
          have cc4 := cell_of hT4 4
          have cc5 := cell_of hT4 5
          simp at cc0 cc1 cc2 cc3 cc4 cc5
          have cd0 := cell_of hU4 0
          have cd1 := cell_of hU4 1
          have cd2 := cell_of hU4 2
          have cd3 := cell_of hU4 3
          have cd4 := cell_of hU4 4
          have cd5 := cell_of hU4 5
          simp at cd0 cd1 cd2 cd3 cd4 cd5
          go_wp2
          have zP : (put6 w4 w.heap.size ⟨11, 0, 0, ⟨#[]⟩, none, 0, 0, some ⟨w4.heap.size, 0, none⟩, 3, 3⟩).heap.size = w4.heap.size := put6_size _ _ _
          have hLit := exprs_lit3 (q0.put6 (k := w.heap.size) (by simp) ⟨11, 0, 0, ⟨#[]⟩, none, 0, 0, some ⟨w4.heap.size, 0, none⟩, 3, 3⟩) (q1.put6 (k := w.heap.size) (by simp) ⟨11, 0, 0, ⟨#[]⟩, none, 0, 0, some ⟨w4.heap.size, 0, none⟩, 3, 3⟩) (q3.put6 (k := w.heap.size) (by simp) ⟨11, 0, 0, ⟨#[]⟩, none, 0, 0, some ⟨w4.heap.size, 0, none⟩, 3, 3⟩) 46 (by rw [zP]; exact ⟨.inr hlt, by omega⟩)
          rw [zP] at hLit
          refine bodyPost_ret (v := .agg #[.int .i64 11, .int .i64 0, .int .i64 0, .string ⟨#[]⟩, .slice none 0 0, .slice (some ⟨w4.heap.size, 0, none⟩) 3 3]) (by simp [results, Tryd.results93, go_sem, ca0, ca1, ca2, ca3, ca4, ca5, hlt]) rfl ?_
          exact Post.good m4.out ((A4.put6 (k := w.heap.size) (Nat.le_refl _) ⟨11, 0, 0, ⟨#[]⟩, none, 0, 0, some ⟨w4.heap.size, 0, none⟩, 3, 3⟩).alloc (by rw [zP]; omega) _) (by omega) ((h4.put6 (k := w.heap.size) (by omega) (by omega) ⟨11, 0, 0, ⟨#[]⟩, none, 0, 0, some ⟨w4.heap.size, 0, none⟩, 3, 3⟩).alloc _) ⟨⟨11, 0, 0, ⟨#[]⟩, none, 0, 0, some ⟨w4.heap.size, 0, none⟩, 3, 3⟩, rfl, (HEx.make (x := ⟨11, 0, 0, ⟨#[]⟩, none, 0, 0, some ⟨w4.heap.size, 0, none⟩, 3, 3⟩) (e := .mk 11 0 0 ⟨#[]⟩ [] [e0, e1, e3]) rfl rfl rfl rfl sizes_nil hLit).wide (fun i hi _ => hi.1.imp id Nat.le_of_lt)⟩

set_option maxHeartbeats 4000000 in
theorem indexed_any {b g cap : Nat} {I : Inp} {op nx : Nat} {ok0 : Nat → Prop} {x0 : ExV} {e0 : Ex} {J : Option (Nat → Res Ex)} (HJ : Inner b g cap I op J) (hlt : nx < I.L.length) {w : World} (h : Rd w b g cap I.L I.len nx op) (hG : GlobB b w) (hx0 : HEx ok0 w x0.cells e0) (hok : ∀ i, ok0 i → i < w.heap.size ∧ i ≠ b) :
    Calls Tryd.prog 87 #[.pointer (some ⟨b, 0, none⟩), .agg #[.int .i64 x0.op, .int .i64 x0.k, .int .i64 x0.n, .string x0.name, .slice x0.aS x0.nS x0.cS, .slice x0.aL x0.nL x0.cL]] w (Post b g cap I op (exO ok0) (nx + 1) w (Ps.opn I J nx fun A n1 => Ps.index I (Ps.exprOf I A) e0 n1)) := by
  have hb := h.bb
  have hg := h.gb
  have hmf := makes
  obtain ⟨W, hW⟩ : ∃ W, W = ((w.alloc (.cells #[.pointer (some ⟨b, 0, none⟩)] 66 (0, 0))).alloc (.cells #[.int .i64 x0.op, .int .i64 x0.k, .int .i64 x0.n, .string x0.name, .slice x0.aS x0.nS x0.cS, .slice x0.aL x0.nL x0.cL] 46 (0, 0))).alloc (.cells #[.int .i64 0, .int .i64 0, .int .i64 0, .string ⟨#[]⟩, .slice none 0 0, .slice none 0 0] 46 (0, 0)) := ⟨_, rfl⟩
  have zW : W.heap.size = w.heap.size + 1 + 1 + 1 := by rw [hW]; simp
  have bW : Below w.heap.size w W := by rw [hW]; exact (((Below.refl _ w).alloc (Nat.le_refl _) _).alloc (by simp) _).alloc (by simp; omega) _
  have rW : W.heap[w.heap.size]? = some (.cells #[.pointer (some ⟨b, 0, none⟩)] 66 (0, 0)) := by rw [hW]; exact keep_alloc (keep_alloc (heap_new w _) _) _
  have kW : W.heap[w.heap.size + 1]? = some (.cells #[.int .i64 x0.op, .int .i64 x0.k, .int .i64 x0.n, .string x0.name, .slice x0.aS x0.nS x0.cS, .slice x0.aL x0.nL x0.cL] 46 (0, 0)) := by
    have := heap_new (w.alloc (.cells #[.pointer (some ⟨b, 0, none⟩)] 66 (0, 0))) (.cells #[.int .i64 x0.op, .int .i64 x0.k, .int .i64 x0.n, .string x0.name, .slice x0.aS x0.nS x0.cS, .slice x0.aL x0.nL x0.cL] 46 (0, 0))
    have e : (w.alloc (.cells #[.pointer (some ⟨b, 0, none⟩)] 66 (0, 0))).heap.size = w.heap.size + 1 := by simp
    rw [e] at this
    rw [hW]
    exact keep_alloc this _
  have nW : W.heap[w.heap.size + 1 + 1]? = some (.cells #[.int .i64 0, .int .i64 0, .int .i64 0, .string ⟨#[]⟩, .slice none 0 0, .slice none 0 0] 46 (0, 0)) := by
    have := heap_new ((w.alloc (.cells #[.pointer (some ⟨b, 0, none⟩)] 66 (0, 0))).alloc (.cells #[.int .i64 x0.op, .int .i64 x0.k, .int .i64 x0.n, .string x0.name, .slice x0.aS x0.nS x0.cS, .slice x0.aL x0.nL x0.cL] 46 (0, 0))) (.cells #[.int .i64 0, .int .i64 0, .int .i64 0, .string ⟨#[]⟩, .slice none 0 0, .slice none 0 0] 46 (0, 0))
    have e : ((w.alloc (.cells #[.pointer (some ⟨b, 0, none⟩)] 66 (0, 0))).alloc (.cells #[.int .i64 x0.op, .int .i64 x0.k, .int .i64 x0.n, .string x0.name, .slice x0.aS x0.nS x0.cS, .slice x0.aL x0.nL x0.cL] 46 (0, 0))).heap.size = w.heap.size + 1 + 1 := by simp
    rw [e] at this
    rw [hW]
    exact this
  have hRW := h.below bW
  have AW : Aside [b] w.heap.size w W := aside bW
  have hXW := hx0.under bW
  have hokW : ∀ i, ok0 i → i < W.heap.size ∧ i ≠ b := fun i hi => ⟨by have := (hok i hi).1; omega, (hok i hi).2⟩
  go_enter Tryd.func87, Tryd.ntmps87
  go_wp2_with fail
  rw [← hW]
  clear hW
  cases J with
  | none =>
    refine (opened_deep hRW HJ _).mono ?_
    rintro e w1 ⟨rfl, a1⟩
    exact ⟨rfl, Post.fail rfl (AW.trans a1 AW.size)⟩
  | some A =>
    have HF : ∀ w', Rd w' b g cap I.L I.len (nx + 1) (op + 1) → Aside [b] W.heap.size W w' → Calls Tryd.prog 93 (#[] ++ #[.pointer (some ⟨w.heap.size, 0, none⟩), .pointer (some ⟨w.heap.size + 1, 0, none⟩)]) w' (Post b g cap I (op + 1) (exO ok0) (nx + 1) w' (Ps.index I (Ps.exprOf I A) e0 (nx + 1))) := fun w' hr' ha' =>
      indexed1_any (exprOf_any HJ.2) hr' (hG.far (AW.trans ha' AW.size)) (ha'.keep rW (by omega) (by simp; omega)) (ha'.keep kW (by omega) (by simp; omega)) (by omega) (by omega) (hXW.past ha' (fun i hi => by simp; exact (hok i hi).2)) (fun i hi => ⟨Nat.lt_of_lt_of_le (hokW i hi).1 ha'.size, (hok i hi).2⟩)
    refine (opened_any hRW hokW HJ.1 hlt enter128 HF).mono ?_
    rintro e w1 ⟨a1, hres⟩
    have z1 := a1.size
    have A1 := AW.trans a1 AW.size
    have hN1 := a1.keep nW (by omega) (by simp; omega)
    cases ht : Ps.index I (Ps.exprOf I A) e0 (nx + 1) with
    | err c0 a0 =>
      rw [ht] at hres
      obtain rfl : e = _ := hres
      exact ⟨rfl, Post.fail (by unfold Ps.opn; exact ht) A1⟩
    | ok e1 n1 =>
      rw [ht] at hres
      obtain ⟨le1, h1, _, rfl, y, rfl, he1⟩ := hres
      have HT := hide ht
      clear ht
      have fa := fun o => free_of hN1 o
      have ca0 := cell_of hN1 0
      have ca1 := cell_of hN1 1
      have ca2 := cell_of hN1 2
      have ca3 := cell_of hN1 3
      have ca4 := cell_of hN1 4
      have ca5 := cell_of hN1 5
      simp at ca0 ca1 ca2 ca3 ca4 ca5
      have he2 := he1.wide (ok' := fun i => (ok0 i ∨ w.heap.size ≤ i) ∧ i ≠ w.heap.size + 1 + 1) (fun i hi hl => hi.elim (fun q => ⟨.inl q, by have := (hok i q).1; omega⟩) (fun q => ⟨.inr (by omega), by omega⟩))
      go_wp2
      refine bodyPost_ret (v := .agg #[.int .i64 y.op, .int .i64 y.k, .int .i64 y.n, .string y.name, .slice y.aS y.nS y.cS, .slice y.aL y.nL y.cL]) (by simp [results, Tryd.results87, go_sem, ca0, ca1, ca2, ca3, ca4, ca5]) rfl ?_
      exact Post.good (by unfold Ps.opn; exact HT.out) (A1.put6 (k := w.heap.size + 1 + 1) (by omega) y) (by omega) (h1.put6 (k := w.heap.size + 1 + 1) (by omega) (by omega) y) ⟨y, rfl, (he2.put6 (k := w.heap.size + 1 + 1) (by simp) y).wide (fun i hi _ => hi.1)⟩

end Go.Proofs.YtmgaeapckfdbpaaDoor
