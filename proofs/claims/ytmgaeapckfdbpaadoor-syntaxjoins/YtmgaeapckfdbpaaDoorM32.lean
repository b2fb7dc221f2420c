/-
  DERIVED. THE WALKS of opened over a function that turns one block more, and of a form's inner closure, whatever comes.
-/
import Derived.Test.YtmgaeapckfdbpaaDoorM31
import Derived.Test.YtmgaeapckfdbpaaDoorM19
namespace Go.Proofs.YtmgaeapckfdbpaaDoor
open Go.RowKit Go.IntWalk
set_option linter.unusedVariables false
set_option linter.unusedSimpArgs false
set_option maxRecDepth 100000

def PostS {α : Type} (S : List Nat) (b g cap : Nat) (I : Inp) (op : Nat) (V : Nat → World → Value → α → Prop) (nx : Nat) (w : World) (res : Res α) (r : Ending) (w' : World) : Prop :=
  Aside S w.heap.size w w' ∧
  match res with
  | .ok v n1 => nx ≤ n1 ∧ Rd w' b g cap I.L I.len n1 op ∧ ∃ x, r = .returned x ∧ V w.heap.size w' x v
  | .err c a => r = upE c a
theorem PostS.fail {α : Type} {S : List Nat} {b g cap : Nat} {I : Inp} {op : Nat} {V : Nat → World → Value → α → Prop} {nx : Nat} {w : World} {res : Res α} {w' : World} {c a : Nat} (h : res = .err c a) (hA : Aside S w.heap.size w w') : PostS S b g cap I op V nx w res (upE c a) w' := by
  subst h
  exact ⟨hA, rfl⟩
theorem PostS.good {α : Type} {S : List Nat} {b g cap : Nat} {I : Inp} {op : Nat} {V : Nat → World → Value → α → Prop} {nx : Nat} {w : World} {res : Res α} {w' : World} {v : α} {n1 : Nat} {x : Value} (h : res = .ok v n1) (hA : Aside S w.heap.size w w') (hn : nx ≤ n1) (hR : Rd w' b g cap I.L I.len n1 op) (hV : V w.heap.size w' x v) : PostS S b g cap I op V nx w res (.returned x) w' := by
  subst h
  exact ⟨hA, hn, hR, x, rfl, hV⟩

set_option maxHeartbeats 4000000 in
theorem opened_two {ok0 : Nat → Prop} {w : World} {b g cap : Nat} {I : Inp} {nx op F eb : Nat} {first caps : Array Value} {R0 : Res Ex} (h : Rd w b g cap I.L I.len nx op) (heb : eb < w.heap.size) (neb : eb ≠ b) (neg : eb ≠ g) (hok : ∀ i, ok0 i → i < w.heap.size ∧ i ≠ b) (hop : op < 60) (hlt : nx < I.L.length) (hent : ∀ args w, (callFunc F args).run Tryd.prog w = .ok (.enter F args) w)
    (HF : ∀ w', Rd w' b g cap I.L I.len (nx + 1) (op + 1) → Aside [b] w.heap.size w w' → Calls Tryd.prog F (first ++ caps) w' (PostS [b, eb] b g cap I (op + 1) (exO ok0) (nx + 1) w' R0)) :
    Calls Tryd.prog 88 #[.pointer (some ⟨b, 0, none⟩), .func (.func F) first caps] w (PostS [b, eb] b g cap I op (exO ok0) (nx + 1) w R0) := by
  have hb := h.bb
  have hg := h.gb
  have h0 := h.alloc (.cells #[.int .i64 0, .int .i64 0, .int .i64 0, .string ⟨#[]⟩, .slice none 0 0, .slice none 0 0] 46 (0, 0))
  have A0 := (Aside.refl (S := [b]) (B := w.heap.size) w).alloc (Nat.le_refl _) (.cells #[.int .i64 0, .int .i64 0, .int .i64 0, .string ⟨#[]⟩, .slice none 0 0, .slice none 0 0] 46 (0, 0))
  have hN0 := heap_new w (.cells #[.int .i64 0, .int .i64 0, .int .i64 0, .string ⟨#[]⟩, .slice none 0 0, .slice none 0 0] 46 (0, 0))
  have zN : (w.alloc (.cells #[.int .i64 0, .int .i64 0, .int .i64 0, .string ⟨#[]⟩, .slice none 0 0, .slice none 0 0] 46 (0, 0))).heap.size = w.heap.size + 1 := by simp
  have hd : decide ((60 : Int) ≤ op) = false := by simp; omega
  go_enter Tryd.func88, Tryd.ntmps88
  go_upto_region 1 with fail
  generalize w.alloc (.cells #[.int .i64 0, .int .i64 0, .int .i64 0, .string ⟨#[]⟩, .slice none 0 0, .slice none 0 0] 46 (0, 0)) = W at h0 A0 hN0 zN ⊢
  obtain ⟨c0, c1, c2, c3, _⟩ := h0.cells
  have fb := h0.free 3
  have h1 := h0.opens (op + 1) ((op : Int) + 1) (by omega)
  have A1 : Aside [b] w.heap.size w (W.setCell ⟨b, 3, none⟩ (.int .i64 ((op : Int) + 1))) := A0.trans (Aside.setCell (by simp) _) A0.size
  have hN1 := keep_set hN0 (p := ⟨b, 3, none⟩) (by simp; omega) (.int .i64 ((op : Int) + 1))
  have z1 : (W.setCell ⟨b, 3, none⟩ (.int .i64 ((op : Int) + 1))).heap.size = W.heap.size := by simp [World.setCell]
  go_wp2_with fail
  generalize W.setCell ⟨b, 3, none⟩ (.int .i64 ((op : Int) + 1)) = W1 at h1 A1 hN1 z1 ⊢
  clear c0 c1 c2 c3 fb h0 A0 hN0
  refine (step_any h1 hlt).mono ?_
  rintro e w2 ⟨rfl, h2, a2⟩
  have z2 := a2.size
  have A2 := A1.trans a2 A1.size
  have hN2 := a2.keep hN1 (by omega) (by simp; omega)
  clear a2 A1 hN1 h1
  go_wp2_with fail
  refine (HF w2 h2 A2).mono ?_
  rintro e w3 ⟨a3, hres⟩
  have z3 := a3.size
  have A3 : Aside [b, eb] w.heap.size w w3 := (asideE A2).trans a3 A2.size
  have hN3 := a3.keep hN2 (by omega) (by simp; omega)
  clear a3 A2 hN2 h2 HF
  cases R0 with
  | err c0 a0 =>
    obtain rfl : e = _ := hres
    exact ⟨rfl, PostS.fail rfl A3⟩
  | ok e0 n1 =>
    obtain ⟨le3, h3, _, rfl, y, rfl, he3⟩ := hres
    have he4 := (he3.wide (ok' := fun i => (ok0 i ∨ w.heap.size < i) ∧ i ≠ w.heap.size ∧ i ≠ b ∧ i ≠ w3.heap.size) (fun i hi hl => hi.elim (fun q => have := hok i q; ⟨.inl q, by omega, by omega, by omega⟩) (fun q => ⟨.inr (by omega), by omega, by omega, by omega⟩))).under ((Below.refl _ w3).alloc (Nat.le_refl _) (.cells #[.int .i64 y.op, .int .i64 y.k, .int .i64 y.n, .string y.name, .slice y.aS y.nS y.cS, .slice y.aL y.nL y.cL] 46 (0, 0)))
    have h4 := h3.alloc (.cells #[.int .i64 y.op, .int .i64 y.k, .int .i64 y.n, .string y.name, .slice y.aS y.nS y.cS, .slice y.aL y.nL y.cL] 46 (0, 0))
    have A4 := A3.alloc A3.size (.cells #[.int .i64 y.op, .int .i64 y.k, .int .i64 y.n, .string y.name, .slice y.aS y.nS y.cS, .slice y.aL y.nL y.cL] 46 (0, 0))
    have hN4 := keep_alloc hN3 (.cells #[.int .i64 y.op, .int .i64 y.k, .int .i64 y.n, .string y.name, .slice y.aS y.nS y.cS, .slice y.aL y.nL y.cL] 46 (0, 0))
    have hT4 := heap_new w3 (.cells #[.int .i64 y.op, .int .i64 y.k, .int .i64 y.n, .string y.name, .slice y.aS y.nS y.cS, .slice y.aL y.nL y.cL] 46 (0, 0))
    have z4 : (w3.alloc (.cells #[.int .i64 y.op, .int .i64 y.k, .int .i64 y.n, .string y.name, .slice y.aS y.nS y.cS, .slice y.aL y.nL y.cL] 46 (0, 0))).heap.size = w3.heap.size + 1 := by simp
    obtain ⟨c0, c1, c2, c3, _⟩ := h4.cells
    have fb := h4.free 3
    have f4 := fun o => free_of hN4 o
    have ca0 := cell_of hN4 0
    have ca1 := cell_of hN4 1
    have ca2 := cell_of hN4 2
    have ca3 := cell_of hN4 3
    have ca4 := cell_of hN4 4
    have ca5 := cell_of hN4 5
    simp at ca0 ca1 ca2 ca3 ca4 ca5
    have cb0 := cell_of hT4 0
    have cb1 := cell_of hT4 1
    have cb2 := cell_of hT4 2
    have cb3 := cell_of hT4 3
    have cb4 := cell_of hT4 4
    have cb5 := cell_of hT4 5
    simp at cb0 cb1 cb2 cb3 cb4 cb5
    go_wp2
    have h5 := h4.opens op (op : Int) rfl
    have A5 := A4.trans (Aside.setCell (S := [b, eb]) (B := w.heap.size) (p := ⟨b, 3, none⟩) (by simp) (.int .i64 (op : Int))) (Nat.le_refl _)
    have he5 := he4.set (p := ⟨b, 3, none⟩) (by simp) (.int .i64 (op : Int))
    refine bodyPost_ret (v := .agg #[.int .i64 y.op, .int .i64 y.k, .int .i64 y.n, .string y.name, .slice y.aS y.nS y.cS, .slice y.aL y.nL y.cL]) (by simp [results, Tryd.results88, go_sem, ca0, ca1, ca2, ca3, ca4, ca5]) rfl ?_
    exact PostS.good rfl (A5.put6 (k := w.heap.size) (Nat.le_refl _) y) (by omega) (h5.put6 (k := w.heap.size) (by omega) (by omega) y) ⟨y, rfl, (he5.put6 (k := w.heap.size) (by simp) y).wide (fun i hi _ => hi.1.imp id Nat.le_of_lt)⟩

set_option maxHeartbeats 8000000 in
theorem form51_any {b g cap rb eb pb qb ob kb sb tq : Nat} {I : Inp} {op nx : Nat} {E : Nat → Res Ex} {o k : Int} {p : Ps.Pt} {ps : List Ps.Pt} {w : World} (HE : Does 74 b g cap I op exV E) (h : Rd w b g cap I.L I.len nx op) (hG : GlobB b w) (hone : 1 < eb)
    (nrb : rb ≠ b) (neb : eb ≠ b) (neg : eb ≠ g) (nre : rb ≠ eb) (npb : pb ≠ b) (npe : pb ≠ eb) (nqb : qb ≠ b) (nqe : qb ≠ eb) (noe : ob ≠ eb) (nke : kb ≠ eb) (nse : sb ≠ eb)
    (hrb : w.heap[rb]? = some (.cells #[.pointer (some ⟨b, 0, none⟩)] 66 (0, 0))) (hpb : w.heap[pb]? = some (.cells #[fvOf eb rb pb .part] 1 (0, 0))) (hqb : w.heap[qb]? = some (.cells ((p :: ps).map (fvOf eb rb pb)).toArray tq (0, 0)))
    (hob : w.heap[ob]? = some (.cells #[.int .i64 o] 3 (0, 0))) (hkb : w.heap[kb]? = some (.cells #[.int .i64 k] 3 (0, 0))) (hsb : w.heap[sb]? = some (.cells #[.slice (some ⟨qb, 0, none⟩) (ps.length + 1) (ps.length + 1)] 117 (0, 0))) (heb : w.heap[eb]? = some (.cells #[.int .i64 0, .int .i64 0, .int .i64 0, .string ⟨#[]⟩, .slice none 0 0, .slice none 0 0] 46 (0, 0))) (hps : ps.length ≤ 10) :
    Calls Tryd.prog 100 #[.pointer (some ⟨ob, 0, none⟩), .pointer (some ⟨kb, 0, none⟩), .pointer (some ⟨eb, 0, none⟩), .pointer (some ⟨rb, 0, none⟩), .pointer (some ⟨sb, 0, none⟩)] w (PostS [b, eb] b g cap I op exV nx w (Ps.brackets I E p ps (Ps.bare o k) nx)) := by
  have hb := h.bb
  have hg := h.gb
  have le := lt_of heb
  go_enter Tryd.func100, Tryd.ntmps100
  go_upto_region 1 with fail
  have bW : Below w.heap.size w (w.alloc (.cells #[.int .i64 0, .int .i64 0, .int .i64 0, .string ⟨#[]⟩, .slice none 0 0, .slice none 0 0] 46 (0, 0))).drew := ((Below.refl _ w).alloc (Nat.le_refl _) _).drew
  have hN1 : (w.alloc (.cells #[.int .i64 0, .int .i64 0, .int .i64 0, .string ⟨#[]⟩, .slice none 0 0, .slice none 0 0] 46 (0, 0))).drew.heap[w.heap.size]? = some (.cells #[.int .i64 0, .int .i64 0, .int .i64 0, .string ⟨#[]⟩, .slice none 0 0, .slice none 0 0] 46 (0, 0)) := heap_new w _
  have z1 : (w.alloc (.cells #[.int .i64 0, .int .i64 0, .int .i64 0, .string ⟨#[]⟩, .slice none 0 0, .slice none 0 0] 46 (0, 0))).drew.heap.size = w.heap.size + 1 := by show (w.alloc _).heap.size = _; simp
  refine wp_region_late (fun w' => w'.cell? ⟨ob, 0, none⟩ = some (.int .i64 o) ∧ w'.cell? ⟨kb, 0, none⟩ = some (.int .i64 k)) (fun _ => false) (by kernel_rfl) ?_
  generalize (w.alloc (.cells #[.int .i64 0, .int .i64 0, .int .i64 0, .string ⟨#[]⟩, .slice none 0 0, .slice none 0 0] 46 (0, 0))).drew = w1 at bW hN1 z1 ⊢
  have K := fun {x : Nat} {y : Obj} (q : w.heap[x]? = some y) => ((aside bW (S := [])).keep q (lt_of q) (by simp) : w1.heap[x]? = some y)
  have o1 := cell_of (K hob) 0
  have k1 := cell_of (K hkb) 0
  have e0 := cell_of (K heb) 0
  have e1 := cell_of (K heb) 1
  have fe := fun o => free_of (K heb) o
  simp only [List.getElem?_toArray, List.getElem?_cons_zero, List.getElem?_cons_succ] at o1 k1 e0 e1
  have hH := And.intro o1 k1
  have hb2 := set_in (K heb) 0 (.int .i64 o)
  have o2 := cell_of (keep_set (K hob) (p := ⟨eb, 0, none⟩) (fun q => noe q.symm) (.int .i64 o)) 0
  have k2 := cell_of (keep_set (K hkb) (p := ⟨eb, 0, none⟩) (fun q => nke q.symm) (.int .i64 o)) 0
  have hb3 := set_in hb2 1 (.int .i64 k)
  have o3 := cell_of (keep_set (keep_set (K hob) (p := ⟨eb, 0, none⟩) (fun q => noe q.symm) (.int .i64 o)) (p := ⟨eb, 1, none⟩) (fun q => noe q.symm) (.int .i64 k)) 0
  have k3 := cell_of (keep_set (keep_set (K hkb) (p := ⟨eb, 0, none⟩) (fun q => nke q.symm) (.int .i64 o)) (p := ⟨eb, 1, none⟩) (fun q => nke q.symm) (.int .i64 k)) 0
  simp only [List.getElem?_toArray, List.getElem?_cons_zero, List.getElem?_cons_succ] at o2 k2 o3 k3
  simp only [List.setIfInBounds_toArray, List.set_cons_zero, List.set_cons_succ] at hb2 hb3
  have H2 := hide (And.intro o2 k2)
  have H3 := hide (And.intro o3 k3)
  clear o2 k2 o3 k3
  refine' wpAnyL_take (i := 0) (oi := { dst := some 6, op := Op.load 3 (Operand.tmp 0), type := 3, pos := "expr.go:196", after := #[], guard := none }) (v := _) rfl (by kernel_rfl) (by kernel_rfl) (by kernel_rfl) (by kernel_rfl) (fun _ _ _ h => h) hH (by rfl) ?hyv ?onw
  case hyv =>
    intro wz hSw
    obtain ⟨c0, c1⟩ := hSw
    go_simp
    try rfl
  case onw =>
    try simp only [Act.put, List.setIfInBounds_toArray, List.set_cons_zero, List.set_cons_succ]
    refine' wpAnyL_take (i := 1) (oi := { dst := some 7, op := Op.load 3 (Operand.tmp 1), type := 3, pos := "expr.go:196", after := #[], guard := none }) (v := _) rfl (by kernel_rfl) (by kernel_rfl) (by kernel_rfl) (by kernel_rfl) (fun _ _ _ h => h) hH (by rfl) ?hyv ?onw
    case hyv =>
      intro wz hSw
      obtain ⟨c0, c1⟩ := hSw
      go_simp
      try rfl
    case onw =>
      try simp only [Act.put, List.setIfInBounds_toArray, List.set_cons_zero, List.set_cons_succ]
      refine' wpAnyL_take (i := 2) (oi := { dst := some 8, op := Op.fieldAddr 46 (Operand.tmp 2) 0, type := 0, pos := "expr.go:196", after := #[{ on := 0, ground := Ground.phase }, { on := 1, ground := Ground.textOnly Departure.inlinedCapture }], guard := none }) (v := _) rfl (by kernel_rfl) (by kernel_rfl) (by kernel_rfl) (by kernel_rfl) (fun _ _ _ h => h) hH (by rfl) ?hyv ?onw
      case hyv =>
        intro wz hSw
        obtain ⟨c0, c1⟩ := hSw
        go_simp
        try rfl
      case onw =>
        try simp only [Act.put, List.setIfInBounds_toArray, List.set_cons_zero, List.set_cons_succ]
        refine wpAnyL_one (i := 3) (o := { dst := none, op := Op.store 3 (Operand.tmp 8) (Operand.tmp 6), type := 0, pos := "expr.go:196", after := #[{ on := 2, ground := Ground.data }, { on := 0, ground := Ground.data }, { on := 0, ground := Ground.phase }, { on := 1, ground := Ground.textOnly Departure.inlinedCapture }], guard := none }) rfl (by kernel_rfl) (by rfl) (fun K hK => ?_)
        go_simp
        refine hK.out _ _ (fun _ => H2.out) ?_
        clear hK K
        try simp only [Act.put, List.setIfInBounds_toArray, List.set_cons_zero, List.set_cons_succ]
        refine' wpAnyL_take (i := 4) (oi := { dst := some 9, op := Op.fieldAddr 46 (Operand.tmp 2) 1, type := 0, pos := "expr.go:196", after := #[{ on := 0, ground := Ground.phase }, { on := 1, ground := Ground.phase }, { on := 2, ground := Ground.phase }, { on := 3, ground := Ground.phase }], guard := none }) (v := _) rfl (by kernel_rfl) (by kernel_rfl) (by kernel_rfl) (by kernel_rfl) (fun _ _ _ h => h) H2.out (by rfl) ?hyv ?onw
        case hyv =>
          intro wz hSw
          obtain ⟨c0, c1⟩ := hSw
          go_simp
          try rfl
        case onw =>
          try simp only [Act.put, List.setIfInBounds_toArray, List.set_cons_zero, List.set_cons_succ]
          refine wpAnyL_one (i := 5) (o := { dst := none, op := Op.store 3 (Operand.tmp 9) (Operand.tmp 7), type := 0, pos := "expr.go:196", after := #[{ on := 4, ground := Ground.data }, { on := 1, ground := Ground.data }, { on := 3, ground := Ground.chain }, { on := 0, ground := Ground.phase }, { on := 1, ground := Ground.phase }, { on := 2, ground := Ground.phase }, { on := 3, ground := Ground.phase }], guard := none }) rfl (by kernel_rfl) (by rfl) (fun K hK => ?_)
          go_simp
          refine hK.out _ _ (fun _ => H3.out) ?_
          clear hK K
          try simp only [Act.put, List.setIfInBounds_toArray, List.set_cons_zero, List.set_cons_succ]
          refine wpAnyL_done (by kernel_rfl) ?_ _
          have K3 := fun {x : Nat} {y : Obj} (q : w.heap[x]? = some y) (hx : x ≠ eb) => (keep_set (keep_set (K q) (p := ⟨eb, 0, none⟩) (fun e => hx e.symm) (.int .i64 o)) (p := ⟨eb, 1, none⟩) (fun e => hx e.symm) (.int .i64 k) : ((w1.setCell ⟨eb, 0, none⟩ (.int .i64 o)).setCell ⟨eb, 1, none⟩ (.int .i64 k)).heap[x]? = some y)
          have hN3 := keep_set (keep_set hN1 (p := ⟨eb, 0, none⟩) (by simp; omega) (.int .i64 o)) (p := ⟨eb, 1, none⟩) (by simp; omega) (.int .i64 k)
          have h3 := ((h.below bW).set (p := ⟨eb, 0, none⟩) (by simpa using neb) (by simpa using neg) (.int .i64 o)).set (p := ⟨eb, 1, none⟩) (by simpa using neb) (by simpa using neg) (.int .i64 k)
          have A3 : Aside [b, eb] w.heap.size w ((w1.setCell ⟨eb, 0, none⟩ (.int .i64 o)).setCell ⟨eb, 1, none⟩ (.int .i64 k)) := ((aside bW).trans (Aside.setCell (by simp) _) (Nat.le_refl _)).trans (Aside.setCell (by simp) _) (Nat.le_refl _)
          have z3 : ((w1.setCell ⟨eb, 0, none⟩ (.int .i64 o)).setCell ⟨eb, 1, none⟩ (.int .i64 k)).heap.size = w.heap.size + 1 := by simp [World.setCell, z1]
          have hr3 := K3 hrb nre
          have hp3 := K3 hpb npe
          have hq3 := K3 hqb nqe
          have hs3 := K3 hsb nse
          have cr := cell_of hr3 0
          have cs := cell_of hs3 0
          simp only [List.getElem?_toArray, List.getElem?_cons_zero, List.getElem?_cons_succ] at cr cs
          have hG3 : GlobB b ((w1.setCell ⟨eb, 0, none⟩ (.int .i64 o)).setCell ⟨eb, 1, none⟩ (.int .i64 k)) := ⟨hG.1, hG.2.keep A3.size (A3.block 1 hG.one (by have := hG.1; simp; omega))⟩
          go_upto_region 2 with fail
          generalize (w1.setCell ⟨eb, 0, none⟩ (.int .i64 o)).setCell ⟨eb, 1, none⟩ (.int .i64 k) = w3 at hb3 hN3 h3 A3 z3 hr3 hp3 hq3 hs3 cr cs hG3 ⊢
          clear K3 K H2 H3 hH o1 k1 e0 e1 fe hb2 hN1 bW
          have F3 : FEnv b g rb eb pb (w.heap.size + 1) w3 := ⟨⟨by omega, by omega, by have := lt_of hrb; omega, by omega, nrb, neb, neg, nre⟩, by have := lt_of hpb; omega, npb, npe, hone, by omega, hG3, hr3, hp3⟩
          have S3 : ExSt (w.heap.size + 1) eb w3 (Ps.bare o k) := ⟨.slice none 0 0, .slice none 0 0, fun _ => False, fun _ => False, hb3, OwnX.nil, OwnX.nil, fun i hi => hi.elim, fun i hi => hi.elim, fun i hi => hi.elim⟩
          go_wp2_with fail
          refine (brackets_any HE F3 h3 S3 p ps (by show 0 + _ ≤ _; omega) (by show 0 + _ ≤ _; omega) (by have := lt_of hqb; omega) nqb nqe hq3).mono ?_
          rintro r w4 ⟨a4, hres⟩
          have A4 : Aside [b, eb] w.heap.size w w4 := A3.trans a4 (Nat.le_succ _)
          have hN4 := a4.keep hN3 (by omega) (by simp; omega)
          cases ht : Ps.brackets I E p ps (Ps.bare o k) nx with
          | err c0 a0 =>
            rw [ht] at hres
            obtain rfl : r = _ := hres
            exact ⟨rfl, PostS.fail rfl A4⟩
          | ok e4 n4 =>
            rw [ht] at hres
            obtain ⟨le4, h4, rfl, vS, vL, okS, okL, heb4, oS, oL, hokS, hokL, hdis⟩ := hres
            obtain ⟨aS, cS, rfl, hS1, hS2⟩ := oS.form
            obtain ⟨aL, cL, rfl, hL1, hL2⟩ := oL.form
            have HT := hide ht
            clear ht
            have fa := fun o => free_of hN4 o
            have ca0 := cell_of hN4 0
            have ca1 := cell_of hN4 1
            have ca2 := cell_of hN4 2
            have ca3 := cell_of hN4 3
            have ca4 := cell_of hN4 4
            have ca5 := cell_of hN4 5
            simp at ca0 ca1 ca2 ca3 ca4 ca5
            have cb0 := cell_of heb4 0
            have cb1 := cell_of heb4 1
            have cb2 := cell_of heb4 2
            have cb3 := cell_of heb4 3
            have cb4 := cell_of heb4 4
            have cb5 := cell_of heb4 5
            simp at cb0 cb1 cb2 cb3 cb4 cb5
            have hX : HEx (fun i => w.heap.size < i) w4 (ExV.cells ⟨e4.op, e4.k, e4.n, e4.name, aS, e4.S.length, cS, aL, e4.L.length, cL⟩) e4 := HEx.make (x := ⟨e4.op, e4.k, e4.n, e4.name, aS, e4.S.length, cS, aL, e4.L.length, cL⟩) rfl rfl rfl rfl (sizes_row (oS.row.wide (fun i hi _ => by have := hokS i hi; omega))) (exprs_row (oL.row.wide (fun i hi _ => by have := hokL i hi; omega)))
            go_wp2
            refine bodyPost_ret (v := .agg #[.int .i64 e4.op, .int .i64 e4.k, .int .i64 e4.n, .string e4.name, .slice aS e4.S.length cS, .slice aL e4.L.length cL]) (by simp [results, Tryd.results100, go_sem, ca0, ca1, ca2, ca3, ca4, ca5]) rfl ?_
            exact PostS.good HT.out (A4.put6 (k := w.heap.size) (Nat.le_refl _) ⟨e4.op, e4.k, e4.n, e4.name, aS, e4.S.length, cS, aL, e4.L.length, cL⟩) (by omega) (h4.put6 (k := w.heap.size) (by omega) (by omega) ⟨e4.op, e4.k, e4.n, e4.name, aS, e4.S.length, cS, aL, e4.L.length, cL⟩) ⟨⟨e4.op, e4.k, e4.n, e4.name, aS, e4.S.length, cS, aL, e4.L.length, cL⟩, rfl, (hX.put6 (k := w.heap.size) (by simp) ⟨e4.op, e4.k, e4.n, e4.name, aS, e4.S.length, cS, aL, e4.L.length, cL⟩).wide (fun i hi _ => Nat.le_of_lt hi)⟩

end Go.Proofs.YtmgaeapckfdbpaaDoor


/-
  DERIVED. THE WALK of a form's brackets, opened, whatever comes.
-/
namespace Go.Proofs.YtmgaeapckfdbpaaDoor
open Go.RowKit Go.IntWalk
set_option linter.unusedVariables false
set_option linter.unusedSimpArgs false
set_option maxRecDepth 100000

theorem PostS.mono {α : Type} {S : List Nat} {b g cap : Nat} {I : Inp} {op : Nat} {V V' : Nat → World → Value → α → Prop} {nx : Nat} {w : World} {res : Res α} {r : Ending} {w' : World} (hV : ∀ B w x v, V B w x v → V' B w x v) (h : PostS S b g cap I op V nx w res r w') : PostS S b g cap I op V' nx w res r w' := by
  obtain ⟨h1, h2⟩ := h
  refine ⟨h1, ?_⟩
  cases res with
  | ok v n => obtain ⟨a, b, x, c, d⟩ := h2; exact ⟨a, b, x, c, hV _ _ _ _ d⟩
  | err c a => exact h2

set_option maxHeartbeats 8000000 in
theorem form5_any {b g cap rb eb pb qb tq : Nat} {I : Inp} {op nx : Nat} {J : Option (Nat → Res Ex)} {o k : Int} {p : Ps.Pt} {ps : List Ps.Pt} {w : World} (HJ : Inner b g cap I op J) (hlt : nx < I.L.length) (h : Rd w b g cap I.L I.len nx op) (hG : GlobB b w) (hone : 1 < eb)
    (nrb : rb ≠ b) (neb : eb ≠ b) (neg : eb ≠ g) (nre : rb ≠ eb) (npb : pb ≠ b) (npe : pb ≠ eb) (nqb : qb ≠ b) (nqe : qb ≠ eb)
    (hrb : w.heap[rb]? = some (.cells #[.pointer (some ⟨b, 0, none⟩)] 66 (0, 0))) (hpb : w.heap[pb]? = some (.cells #[fvOf eb rb pb .part] 1 (0, 0))) (hqb : w.heap[qb]? = some (.cells ((p :: ps).map (fvOf eb rb pb)).toArray tq (0, 0)))
    (heb : w.heap[eb]? = some (.cells #[.int .i64 0, .int .i64 0, .int .i64 0, .string ⟨#[]⟩, .slice none 0 0, .slice none 0 0] 46 (0, 0))) (hps : ps.length ≤ 10) :
    Calls Tryd.prog 99 #[.int .i64 o, .int .i64 k, .slice (some ⟨qb, 0, none⟩) (ps.length + 1) (ps.length + 1), .pointer (some ⟨rb, 0, none⟩), .pointer (some ⟨eb, 0, none⟩)] w (PostS [b, eb] b g cap I op exV nx w (Ps.opn I J nx fun A n1 => Ps.brackets I (Ps.exprOf I A) p ps (Ps.bare o k) n1)) := by
  have hb := h.bb
  have hg := h.gb
  have le := lt_of heb
  have lr := lt_of hrb
  have lp := lt_of hpb
  have lq := lt_of hqb
  have hmf := makes
  obtain ⟨W, hW⟩ : ∃ W, W = ((((w.alloc (.cells #[.int .i64 o] 3 (0, 0))).alloc (.cells #[.int .i64 k] 3 (0, 0))).alloc (.cells #[.slice (some ⟨qb, 0, none⟩) (ps.length + 1) (ps.length + 1)] 117 (0, 0))).alloc (.cells #[.int .i64 0, .int .i64 0, .int .i64 0, .string ⟨#[]⟩, .slice none 0 0, .slice none 0 0] 46 (0, 0))) := ⟨_, rfl⟩
  have zW : W.heap.size = w.heap.size + 1 + 1 + 1 + 1 := by rw [hW]; simp
  have bW : Below w.heap.size w W := by rw [hW]; exact ((((Below.refl _ w).alloc (Nat.le_refl _) _).alloc (by simp) _).alloc (by simp; omega) _).alloc (by simp; omega) _
  have oW : W.heap[w.heap.size]? = some (.cells #[.int .i64 o] 3 (0, 0)) := by
    have q := heap_new w (.cells #[.int .i64 o] 3 (0, 0))
    rw [hW]
    exact (keep_alloc (keep_alloc (keep_alloc q _) _) _)
  have kW : W.heap[w.heap.size + 1]? = some (.cells #[.int .i64 k] 3 (0, 0)) := by
    have q := heap_new (w.alloc (.cells #[.int .i64 o] 3 (0, 0))) (.cells #[.int .i64 k] 3 (0, 0))
    have z : (w.alloc (.cells #[.int .i64 o] 3 (0, 0))).heap.size = w.heap.size + 1 := by simp
    rw [z] at q
    rw [hW]
    exact (keep_alloc (keep_alloc q _) _)
  have sW : W.heap[w.heap.size + 1 + 1]? = some (.cells #[.slice (some ⟨qb, 0, none⟩) (ps.length + 1) (ps.length + 1)] 117 (0, 0)) := by
    have q := heap_new ((w.alloc (.cells #[.int .i64 o] 3 (0, 0))).alloc (.cells #[.int .i64 k] 3 (0, 0))) (.cells #[.slice (some ⟨qb, 0, none⟩) (ps.length + 1) (ps.length + 1)] 117 (0, 0))
    have z : ((w.alloc (.cells #[.int .i64 o] 3 (0, 0))).alloc (.cells #[.int .i64 k] 3 (0, 0))).heap.size = w.heap.size + 1 + 1 := by simp
    rw [z] at q
    rw [hW]
    exact (keep_alloc q _)
  have nW : W.heap[w.heap.size + 1 + 1 + 1]? = some (.cells #[.int .i64 0, .int .i64 0, .int .i64 0, .string ⟨#[]⟩, .slice none 0 0, .slice none 0 0] 46 (0, 0)) := by
    have q := heap_new (((w.alloc (.cells #[.int .i64 o] 3 (0, 0))).alloc (.cells #[.int .i64 k] 3 (0, 0))).alloc (.cells #[.slice (some ⟨qb, 0, none⟩) (ps.length + 1) (ps.length + 1)] 117 (0, 0))) (.cells #[.int .i64 0, .int .i64 0, .int .i64 0, .string ⟨#[]⟩, .slice none 0 0, .slice none 0 0] 46 (0, 0))
    have z : (((w.alloc (.cells #[.int .i64 o] 3 (0, 0))).alloc (.cells #[.int .i64 k] 3 (0, 0))).alloc (.cells #[.slice (some ⟨qb, 0, none⟩) (ps.length + 1) (ps.length + 1)] 117 (0, 0))).heap.size = w.heap.size + 1 + 1 + 1 := by simp
    rw [z] at q
    rw [hW]
    exact q
  have hRW := h.below bW
  have AW : Aside [b, eb] w.heap.size w W := aside bW
  have AW1 : Aside [b] w.heap.size w W := aside bW
  have K := fun {x : Nat} {y : Obj} (q : w.heap[x]? = some y) => ((aside bW (S := [])).keep q (lt_of q) (by simp) : W.heap[x]? = some y)
  have rW := K hrb
  have cr := cell_of rW 0
  simp only [List.getElem?_toArray, List.getElem?_cons_zero] at cr
  go_enter Tryd.func99, Tryd.ntmps99
  go_upto_region 1 with fail
  rw [← hW]
  clear hW
  go_wp2_with fail
  cases J with
  | none =>
    refine (opened_deep hRW HJ _).mono ?_
    rintro r w1 ⟨rfl, a1⟩
    exact ⟨rfl, PostS.fail rfl (AW.trans (asideE a1) AW.size)⟩
  | some A =>
    have HF : ∀ w', Rd w' b g cap I.L I.len (nx + 1) (op + 1) → Aside [b] W.heap.size W w' → Calls Tryd.prog 100 (#[] ++ #[.pointer (some ⟨w.heap.size, 0, none⟩), .pointer (some ⟨w.heap.size + 1, 0, none⟩), .pointer (some ⟨eb, 0, none⟩), .pointer (some ⟨rb, 0, none⟩), .pointer (some ⟨w.heap.size + 1 + 1, 0, none⟩)]) w' (PostS [b, eb] b g cap I (op + 1) (exO fun _ => False) (nx + 1) w' (Ps.brackets I (Ps.exprOf I A) p ps (Ps.bare o k) (nx + 1))) := fun w' hr' ha' =>
      (form51_any (exprOf_any HJ.2) hr' (hG.far (AW1.trans ha' AW1.size)) hone nrb neb neg nre npb npe nqb nqe (by omega) (by omega) (by omega) (ha'.keep rW (lt_of rW) (by simp; omega)) (ha'.keep (K hpb) (lt_of (K hpb)) (by simp; omega)) (ha'.keep (K hqb) (lt_of (K hqb)) (by simp; omega)) (ha'.keep oW (lt_of oW) (by simp; omega)) (ha'.keep kW (lt_of kW) (by simp; omega)) (ha'.keep sW (lt_of sW) (by simp; omega)) (ha'.keep (K heb) (lt_of (K heb)) (by simp; omega)) hps).mono fun e w2 hp => hp.mono fun B w x v hv => exO_of _ hv
    refine (opened_two hRW (by omega) neb neg (fun i hi => hi.elim) HJ.1 hlt enter135 HF).mono ?_
    rintro r w1 ⟨a1, hres⟩
    have z1 := a1.size
    have A1 := AW.trans a1 AW.size
    have hN1 := a1.keep nW (by omega) (by simp; omega)
    cases ht : Ps.brackets I (Ps.exprOf I A) p ps (Ps.bare o k) (nx + 1) with
    | err c0 a0 =>
      rw [ht] at hres
      obtain rfl : r = _ := hres
      exact ⟨rfl, PostS.fail (by unfold Ps.opn; exact ht) A1⟩
    | ok e1 n1 =>
      rw [ht] at hres
      obtain ⟨le1, h1, _, rfl, hx⟩ := hres
      obtain ⟨y, rfl, he1⟩ := exV_of hx
      have HT := hide ht
      clear ht
      have fa := fun o => free_of hN1 o
      have ca0 := cell_of hN1 0
      have ca1 := cell_of hN1 1
      have ca2 := cell_of hN1 2
      have ca3 := cell_of hN1 3
      have ca4 := cell_of hN1 4
      have ca5 := cell_of hN1 5
      simp at ca0 ca1 ca2 ca3 ca4 ca5
      have he2 := he1.wide (ok' := fun i => w.heap.size + 1 + 1 + 1 < i) (fun i hi hl => by omega)
      go_wp2
      refine bodyPost_ret (v := .agg #[.int .i64 y.op, .int .i64 y.k, .int .i64 y.n, .string y.name, .slice y.aS y.nS y.cS, .slice y.aL y.nL y.cL]) (by simp [results, Tryd.results99, go_sem, ca0, ca1, ca2, ca3, ca4, ca5]) rfl ?_
      exact PostS.good (by unfold Ps.opn; exact HT.out) (A1.put6 (k := w.heap.size + 1 + 1 + 1) (by omega) y) (by omega) (h1.put6 (k := w.heap.size + 1 + 1 + 1) (by omega) (by omega) y) ⟨y, rfl, (he2.put6 (k := w.heap.size + 1 + 1 + 1) (by simp) y).wide (fun i hi _ => by omega)⟩

end Go.Proofs.YtmgaeapckfdbpaaDoor
